import random
import unittest

from tests.deedcases import no_deeds, some_deed
from tests.plain import plain_settled, plain_tables, plain_uses, plain_worth
from tests.plainlines import many_cases, plain_judge, plain_lines, plain_whole, right_lines
from tests.samples import ODD_VALUES, lone, road_program, road_store, steady_scales, turning
from tests.test_asking import misfits
from tests.test_judging import bad_papers
from worthhouse.compiling import compiled, store_over
from worthhouse.edits import back, changed, deeds_between, edited, kept_lines, kept_on, touched
from worthhouse.errors import (
    BadDeed,
    BadPaper,
    MixedFrames,
    MixedScales,
    NoRow,
    NotSteady,
    NotTold,
    UnknownFact,
    UnknownLabel,
    UnknownThing,
    UnknownWorth,
)
from worthhouse.frames import Frame
from worthhouse.papers import gone_on, paper_of
from worthhouse.resting import height, within
from worthhouse.rounds import ruled_facts, settled
from worthhouse.rules import Program, made_program
from worthhouse.scales import CostScale, CountScale, LevelScale, TurnScale
from worthhouse.stores import Store
from worthhouse.texts import read_program, read_store

COUNTS = CountScale(7)
FRAME = Frame(["k", "m"], [("e", ("k", "k")), ("f", ("m",)), ("t", ())], [("p", ("k", "k")), ("n", ()), ("o", ("k",))])
STORE = "b of k\na of k\nw of m\ne(b a) = 1\nt() = 2\ne(a b) = 0"
RULES = "z: n() :- o(x) * 1\na: o(x) :- e(x y) * 1"
RULE = ("m", ("o", ("x",)), (("e", ("x", "@a")),), (("unlike", "x", "@a"),), "3")


def case(rules=RULES, store=STORE, scale=COUNTS):
    return read_program(FRAME, scale, rules), read_store(FRAME, scale, store)


def in_any_order(program, store):
    return sorted(program.rules()), sorted(store.rows())


class Edited(unittest.TestCase):
    def check(self, deed, rows=None, labels=("a", "z"), scale=COUNTS):
        program, store = case(scale=scale)
        behind, behind_store = edited(program, store, deed)
        rows = [("e", ("a", "b"), "0"), ("e", ("b", "a"), "1"), ("t", (), "2")] if rows is None else rows
        self.assertEqual(behind_store.rows(), rows)
        self.assertEqual(behind.labels(), list(labels))
        self.assertEqual((behind.frame, behind.scale, behind_store.frame, behind_store.scale), (FRAME, scale, FRAME, scale))
        self.assertEqual(behind_store.things(), store.things())
        self.assertEqual((program, store), case(scale=scale))
        return behind

    def test_rows(self):
        ab, ba, t = ("e", ("a", "b"), "0"), ("e", ("b", "a"), "1"), ("t", (), "2")
        self.check(("tell", "t", (), "5"), [ab, ba, ("t", (), "5")])
        self.check(("tell", "e", ("a", "a"), "0"), [("e", ("a", "a"), "0"), ab, ba, t])
        self.check(("tell", "f", ("w",), "7"), [ab, ba, ("f", ("w",), "7"), t])
        self.check(("raise", "t", (), "4"), [ab, ba, ("t", (), "6")])
        self.check(("raise", "t", (), "7"), [ab, ba, ("t", (), "7")])
        # A raise of a row that there is not puts it in, also with nought.
        self.check(("raise", "e", ("b", "b"), "0"), [ab, ba, ("e", ("b", "b"), "0"), t])
        self.check(("raise", "e", ("b", "b"), "3"), [ab, ba, ("e", ("b", "b"), "3"), t])
        self.check(("clear", "t", ()), [ab, ba])
        self.check(("clear", "e", ("a", "b")), [ba, t])
        # A deed may change nothing; the rules and rows are put in order all the same.
        self.check(("tell", "t", (), "2"))
        self.check(("raise", "t", (), "0"))

    def test_rules(self):
        behind = self.check(("rule", RULE), labels=("a", "m", "z"))
        self.assertEqual(behind.rule("m"), RULE)
        behind = self.check(("rule", ("z",) + RULE[1:]))
        self.assertEqual(behind.rule("z"), ("z",) + RULE[1:])
        self.check(("unrule", "a"), labels=("z",))
        self.check(("rule", case()[0].rule("z")))

    def test_a_raise_by_the_scale(self):
        program, store = case("", STORE.replace("2", "1"), LevelScale(3))
        self.assertEqual(edited(program, store, ("raise", "t", (), "3"))[1].worth("t", ()), "3")
        self.assertEqual(edited(program, store, ("raise", "t", (), "0"))[1].worth("t", ()), "1")

    def test_two_ways_to_the_same(self):
        rng = random.Random(151)
        for program, store in many_cases(151, steady_scales() + [turning()], 80):
            first = some_deed(rng, program, store)
            second = some_deed(rng, program, store)
            if first is None or second is None or first[1] == second[1] or first[0] == "raise" and second[0] == "raise":
                continue
            if first[0] in ("rule", "unrule") == (second[0] in ("rule", "unrule")):
                continue
            one = edited(*edited(program, store, first), second) if first[0] != second[0] else None
            if one is not None and {first[0], second[0]} & {"rule", "unrule"} and {first[0], second[0]} & {"tell", "clear"}:
                other = edited(*edited(program, store, second), first)
                self.assertEqual(one, other)
                self.assertEqual(one[1].rows(), other[1].rows())

    def test_against_a_plain_reckoning(self):
        rng = random.Random(152)
        words = {}
        for program, store in many_cases(152, steady_scales() + [turning()], 200):
            deed = some_deed(rng, program, store)
            if deed is None:
                continue
            words[deed[0]] = words.get(deed[0], 0) + 1
            rules = {rule[0]: rule for rule in program.rules()}
            rows = {row[:2]: row[2] for row in store.rows()}
            if deed[0] == "rule":
                rules[deed[1][0]] = deed[1]
            elif deed[0] == "unrule":
                del rules[deed[1]]
            elif deed[0] == "clear":
                del rows[deed[1:]]
            elif deed[0] == "raise" and deed[1:3] in rows:
                rows[deed[1:3]] = program.scale.plus(rows[deed[1:3]], deed[3])
            else:
                rows[deed[1:3]] = deed[3]
            behind, behind_store = edited(program, store, deed)
            self.assertEqual(behind.rules(), [rules[label] for label in sorted(rules)])
            self.assertEqual(behind_store.rows(), [fact + (rows[fact],) for fact in sorted(rows)])
        self.assertTrue(len(words) == 5 and min(words.values()) > 10, words)


class EditedErrors(unittest.TestCase):
    CALLS = [edited, back, touched, changed]

    def wrong(self, deed, error, *values, calls=None):
        program, store = case("z: n() :- o(@a), f(@w) * 1")
        for call in self.CALLS if calls is None else calls:
            with self.assertRaises(error, msg=deed) as caught:
                call(program, store, deed)
            self.assertEqual(tuple(vars(caught.exception).values()), values)

    def test_bad_deeds(self):
        good = [("tell", "t", (), "1"), ("raise", "t", (), "1"), ("clear", "t", ()), ("rule", RULE), ("unrule", "z")]
        for odd in no_deeds(good):
            if odd not in good:
                self.wrong(odd, BadDeed)
        program, store = case("z: n() :- o(@a), f(@w) * 1")
        for deed in good:
            edited(program, store, deed)

    def test_rules_that_are_none(self):
        label, head, body, tests, worth = RULE
        odd = ODD_VALUES + [RULE[:4], RULE + ("1",), list(RULE)]
        odd += [(label, head, list(body), tests, worth), (label, head, body, list(tests), worth), ("m.0", head, body, tests, worth), ("M", head, body, tests, worth)]
        odd += [(label, head, body, tests, "8"), (label, head, body, tests, 3), (label, ("e", ("x", "@a")), body, tests, worth), (label, ("zz", ()), body, tests, worth)]
        odd += [(label, head, (), (), worth), (label, ("o", ("x", "y")), body, tests, worth), (label, head, body, (("same", "x", "y"),), worth), (label, head, body, (("same", "@a", "@a"),), worth)]
        # A thing that the other rules name with another kind, whatever their order.
        odd += [(label, head, (("e", ("x", "@w")),), (), worth) for label in ("m", "zz", "a")]
        odd += [(label, ("o", ("x",)), (("e", ("x", "@c")), ("f", ("@c",))), (), worth)]
        for rule in odd:
            self.wrong(("rule", rule), BadDeed)
        # In the place of the rule that names it with another kind it may stand: then the store must have it so.
        self.wrong(("rule", ("z", head, (("e", ("x", "@w")),), (), worth)), UnknownThing, "w")

    def test_tell_and_raise(self):
        for word in ("tell", "raise"):
            self.wrong((word, "o", ("zz",), "9"), NotTold, "o")
            self.wrong((word, "", (), ""), NotTold, "")
            self.wrong((word, "e", ("a",), "9"), UnknownFact, ("e", ("a",)))
            self.wrong((word, "e", ("a", "zz"), "9"), UnknownFact, ("e", ("a", "zz")))
            self.wrong((word, "e", ("a", "w"), "9"), UnknownFact, ("e", ("a", "w")))
            self.wrong((word, "t", ("a",), "9"), UnknownFact, ("t", ("a",)))
            self.wrong((word, "e", ("a", "a"), "9"), UnknownWorth, "9")

    def test_clear(self):
        self.wrong(("clear", "o", ("a",)), NotTold, "o")
        self.wrong(("clear", "e", ("a", "a")), NoRow, "e", ("a", "a"))
        self.wrong(("clear", "e", ("zz",)), NoRow, "e", ("zz",))

    def test_rule(self):
        # The first thing in the order of needed_things that the store does not have with its kind.
        rule = ("m", ("o", ("@x1",)), (("e", ("x", "@x2")), ("f", ("@x3",))), (("same", "x", "@x4"),), "1")
        self.wrong(("rule", rule), UnknownThing, "x1")
        self.wrong(("rule", rule[:1] + (("o", ("@a",)),) + rule[2:]), UnknownThing, "x2")
        self.wrong(("rule", ("m", ("o", ("@a",)), (("f", ("@b",)),), (), "1")), UnknownThing, "b")
        self.wrong(("rule", ("m", ("o", ("x",)), (("e", ("x", "y")),), (("same", "x", "@c"),), "1")), UnknownThing, "c")

    def test_unrule(self):
        for label in ("m", "", "Z", "z.0"):
            self.wrong(("unrule", label), UnknownLabel, label)

    def test_need_fit_comes_first(self):
        for program, store, error in misfits():
            for call in self.CALLS + [kept_lines, kept_on]:
                with self.assertRaises(error):
                    call(program, store, None)

    def test_not_steady_comes_behind_that(self):
        program, store = case("", STORE, TurnScale(3))
        for deed in (None, ("unrule", "zz")):
            with self.assertRaises(NotSteady):
                changed(program, store, deed)
        with self.assertRaises(BadDeed):
            touched(program, store, None)


class Back(unittest.TestCase):
    def check(self, deed, led):
        program, store = case()
        self.assertEqual(back(program, store, deed), led)

    def test_told_in_full(self):
        self.check(("tell", "t", (), "5"), ("tell", "t", (), "2"))
        self.check(("tell", "t", (), "2"), ("tell", "t", (), "2"))
        self.check(("raise", "t", (), "5"), ("tell", "t", (), "2"))
        self.check(("tell", "e", ("a", "a"), "5"), ("clear", "e", ("a", "a")))
        self.check(("raise", "e", ("a", "a"), "0"), ("clear", "e", ("a", "a")))
        self.check(("clear", "e", ("a", "b")), ("tell", "e", ("a", "b"), "0"))
        self.check(("rule", RULE), ("unrule", "m"))
        self.check(("rule", ("a",) + RULE[1:]), ("rule", case()[0].rule("a")))
        self.check(("unrule", "z"), ("rule", case()[0].rule("z")))

    def test_it_leads_back(self):
        rng = random.Random(153)
        for program, store in many_cases(153, steady_scales() + [turning()], 120):
            deed = some_deed(rng, program, store)
            if deed is not None:
                again = edited(*edited(program, store, deed), back(program, store, deed))
                self.assertEqual(in_any_order(*again), in_any_order(program, store))


class Between(unittest.TestCase):
    def test_told_in_full(self):
        program, store = case()
        other = read_program(FRAME, COUNTS, "b: n() * 1\na: o(x) :- e(x y) * 2\nc: n() * 0")
        other_store = read_store(FRAME, COUNTS, "b of k\na of k\nw of m\nt() = 2\ne(b a) = 0\ne(a a) = 0\nf(w) = 1")
        self.assertEqual(deeds_between(program, store, other, other_store), [
            ("rule", other.rule("a")), ("rule", other.rule("b")), ("rule", other.rule("c")), ("unrule", "z"),
            ("tell", "e", ("a", "a"), "0"), ("clear", "e", ("a", "b")), ("tell", "e", ("b", "a"), "0"), ("tell", "f", ("w",), "1"),
        ])
        self.assertEqual(deeds_between(program, store, program, store), [])

    def test_a_row_of_nought_against_no_row(self):
        program, store = case("")
        other = store.with_rows([row for row in store.rows() if row[2] != "0"])
        self.assertEqual(deeds_between(program, store, program, other), [("clear", "e", ("a", "b"))])
        self.assertEqual(deeds_between(program, other, program, store), [("tell", "e", ("a", "b"), "0")])

    def test_they_lead_there(self):
        rng = random.Random(154)
        for program, store in many_cases(154, steady_scales() + [turning()], 80):
            other, other_store = program, store
            for _ in range(4):
                deed = some_deed(rng, other, other_store)
                if deed is not None:
                    other, other_store = edited(other, other_store, deed)
            met, met_store = program, store
            deeds = deeds_between(program, store, other, other_store)
            self.assertLessEqual(len(deeds), 4)
            for deed in deeds:
                self.assertNotEqual(edited(met, met_store, deed), (met, met_store))
                met, met_store = edited(met, met_store, deed)
            self.assertEqual(in_any_order(met, met_store), in_any_order(other, other_store))

    def test_errors(self):
        program, store = case()
        for odd, odd_store, error in misfits():
            with self.assertRaises(error):
                deeds_between(odd, odd_store, program, store)
            with self.assertRaises(error):
                deeds_between(program, store, odd, odd_store)
        wider = Frame(["k", "m"], FRAME.told(), [])
        scale = CostScale(2)
        with self.assertRaises(MixedFrames):
            deeds_between(program, store, Program(wider, scale, []), Store(wider, scale, [], []))
        with self.assertRaises(MixedScales):
            deeds_between(program, store, Program(FRAME, scale, []), Store(FRAME, scale, store.things(), []))


class TouchedAndChanged(unittest.TestCase):
    def test_told_in_full(self):
        program, store = case("a: o(x) :- e(x y) * 1\nb: n() :- o(@a) * 1\nc: p(x y) :- o(x), p(y x) * 1\nd: p(@b @b) :- t() * 0")
        a, b, n = ("o", ("a",)), ("o", ("b",)), ("n", ())
        p = [("p", (x, y)) for x in "ba" for y in "ba"]
        self.assertEqual(touched(program, store, ("tell", "e", ("a", "b"), "1")), [p[1], p[2], p[3], n, a])
        self.assertEqual(changed(program, store, ("tell", "e", ("a", "b"), "1")), [(n, "0", "1"), (a, "0", "1")])
        # What changes nothing touches nothing.
        for deed in (("tell", "e", ("a", "b"), "0"), ("raise", "t", (), "0"), ("rule", program.rule("b")), ("tell", "f", ("w",), "1")):
            self.assertEqual(touched(program, store, deed), [])
            self.assertEqual(changed(program, store, deed), [])
        # A row of nought that goes takes its uses with it.
        self.assertEqual(touched(program, store, ("clear", "e", ("a", "b"))), [p[1], p[2], p[3], n, a])
        self.assertEqual(changed(program, store, ("clear", "e", ("a", "b"))), [])
        # The worth of the use is nought ahead and behind: it stays.
        self.assertEqual(touched(program, store, ("tell", "t", (), "3")), [])
        self.assertEqual(touched(program, store, ("clear", "t", ())), p[:1])
        self.assertEqual(touched(program, store, ("rule", ("b", ("n", ()), (("o", ("@b",)),), (), "1"))), [n])
        self.assertEqual(changed(program, store, ("unrule", "a")), [(b, "1", "0")])

    def test_a_rule_with_the_same_uses(self):
        # A use is told by its label; another order of variables makes unlike uses.
        program, store = case("a: p(x y) :- e(x y) * 1")
        self.assertEqual(touched(program, store, ("rule", ("a", ("p", ("y", "x")), (("e", ("y", "x")),), (), "1"))), [])
        self.assertEqual(touched(program, store, ("rule", ("a", ("p", ("x", "y")), (("e", ("x", "y")),), (("same", "x", "x"),), "1"))), [])
        both = [("p", ("b", "a")), ("p", ("a", "b"))]
        self.assertEqual(touched(program, store, ("rule", ("a", ("p", ("y", "x")), (("e", ("x", "y")),), (), "1"))), both)
        self.assertEqual(touched(program, store, ("rule", ("c", ("p", ("x", "y")), (("e", ("x", "y")),), (), "0"))), both)

    def test_against_all_uses(self):
        rng = random.Random(155)
        scales = steady_scales() + [turning(), TurnScale(4)]
        most = 0
        for program, store in many_cases(155, scales, 120):
            deed = some_deed(rng, program, store)
            if deed is None:
                continue
            behind = edited(program, store, deed)
            ahead = {use: plain_worth(program, store, use) for use in plain_uses(program, store)}
            later = {use: plain_worth(*behind, use) for use in plain_uses(*behind)}
            heads = {use[2] for use in [*ahead, *later] if ahead.get(use) != later.get(use)}
            while True:
                wider = heads | {use[2] for use in [*ahead, *later] if heads & set(use[4])}
                if wider == heads:
                    break
                heads = wider
            found = touched(program, store, deed)
            self.assertEqual(found, [fact for fact in ruled_facts(program, store) if fact in heads])
            tables, behind_tables = plain_tables(program, store, 3), plain_tables(*behind, 3)
            for table, other in zip(tables, behind_tables):
                self.assertTrue(all(table[fact] == other[fact] for fact in table if fact not in heads))
            most = max(most, len(found))
        self.assertGreater(most, 3)

    def test_changed_against_rounds(self):
        rng = random.Random(156)
        many = 0
        for program, store in many_cases(156, steady_scales(), 120):
            deed = some_deed(rng, program, store)
            if deed is None:
                continue
            ahead, _ = plain_settled(program, store)
            behind, _ = plain_settled(*edited(program, store, deed))
            found = changed(program, store, deed)
            self.assertEqual(found, [(fact, ahead[fact], behind[fact]) for fact in ahead if ahead[fact] != behind[fact]])
            there = touched(program, store, deed)
            self.assertTrue(all(fact in there for fact, _, _ in found))
            if deed[0] == "raise":
                self.assertTrue(all(within(program.scale, before, later) for _, before, later in found))
            many += len(found)
        self.assertGreater(many, 30)

    def test_the_road(self):
        program, store = road_program(), road_store()
        found = changed(program, store, ("tell", "road", ("b", "c"), "2"))
        self.assertIn((("way", ("a", "c")), "none", "2"), found)

    def test_what_is_returned_can_be_changed(self):
        program, store = case()
        deed = ("tell", "e", ("a", "b"), "1")
        for call in (touched, changed):
            call(program, store, deed).clear()
            self.assertNotEqual(call(program, store, deed), [])


def plain_kept(program, store, lines):
    """kept_lines once more: each line is tried behind the kept ones."""
    kept, places = [], {}
    for k, line in enumerate(lines):
        if type(line) is not tuple or len(line) != 3 or type(line[2]) is not tuple:
            continue
        if any(type(child) is not int or child not in places for child in line[2]):
            continue
        further = (line[0], line[1], tuple(places[child] for child in line[2]))
        if plain_lines(program, store, kept + [further])[1] is None:
            places[k] = len(kept)
            kept.append(further)
    return kept, places


class Kept(unittest.TestCase):
    RULES = "a: o(x) :- e(x y) * 1\nb: n() :- o(x), o(y) * 1"

    def test_lines_told_in_full(self):
        program, store = case(self.RULES)
        first, second = ("a", ("b", "a"), ()), ("a", ("a", "b"), ())
        lines = [
            None, first, "b", second, first, ("b", ("b", "a"), (1, 3)), ("b", ("b", "a"), (4, 3)), ("b", ("b", "b"), (1, True)),
            ("b", ("b", "b"), (1, 1)), ("b", ("b", "b"), [1, 1]), ("b", ("b", "a"), (1, 5)), ("b", ("b", "a"), (1, -7)), ("b", ("b", "a"), (1, 99)),
            ("b", ("b", "b"), (1,)), ("b", ["b", "b"], (1, 1)), ("zz", (), ()), ("a", ("a", "a"), ()), ("b", ("b", "b"), (1, 1), ()), ("b", ("a", "a"), (3, 3)), (None, None, None),
            ("b", ("b", "b"), (False, 1)), ({}, [], 0), ("b", ("a", "a"), (3, 16)),
        ]
        kept = [first, second, ("b", ("b", "a"), (0, 1)), ("b", ("b", "b"), (0, 0)), ("b", ("a", "a"), (1, 1))]
        self.assertEqual(kept_lines(program, store, lines), kept)
        self.assertEqual(kept_lines(program, store, tuple(lines)), kept)
        self.assertEqual(kept_lines(program, store, kept), kept)
        self.assertEqual(kept_lines(program, store, []), [])
        self.assertEqual(kept_lines(program, store, lines[:1] + ODD_VALUES), [])

    def test_lines_behind_a_deed(self):
        rng = random.Random(157)
        fewer = 0
        for program, store in many_cases(157, steady_scales() + [turning()], 80):
            lines = right_lines(rng, program, store, 14)
            for _ in range(2):
                deed = some_deed(rng, program, store)
                if deed is not None:
                    program, store = edited(program, store, deed)
                    found = kept_lines(program, store, lines)
                    self.assertEqual(found, plain_kept(program, store, lines)[0])
                    self.assertIsNone(plain_lines(program, store, found)[1])
                    fewer += len(found) < len(lines)
                    lines = found
        self.assertGreater(fewer, 20)

    def test_lines_among_others(self):
        rng = random.Random(158)
        for program, store in many_cases(158, steady_scales(), 50):
            lines = []
            for line in right_lines(rng, program, store, 14):
                lines.append(line)
                if rng.random() < 0.4:
                    label, things, children = line
                    odd = [(label, things, children + (0,)), (label, things[::-1], children), ("zz", things, children), rng.choice(ODD_VALUES), line]
                    lines.insert(rng.randint(0, len(lines)), rng.choice(odd))
            self.assertEqual(kept_lines(program, store, lines), plain_kept(program, store, lines)[0])

    def test_made_names(self):
        frame = Frame(["k"], [("e", ("k", "k"))], [])
        question = (("x",), ("over", "y", ("table", "e", ("x", "y"))))
        program, _ = compiled(frame, COUNTS, question)
        store = read_store(frame, COUNTS, "a of k\nb of k\ne(a b) = 2\ne(a a) = 3")
        over = store_over(program.frame, store)
        facts, lines = paper_of(program, over, ruled_facts(program, over))
        self.assertEqual(kept_lines(program, over, (None,) + lines), list(lines))
        self.assertEqual(kept_on(program, over, (facts, (None,) + lines)), (facts, lines))
        less = over.with_rows([("e", ("a", "a"), "3")])
        self.assertEqual(kept_lines(program, less, lines), [line for line in lines if line[1] == ("a", "a")])

    def check_kept_on(self, program, store, paper):
        scale = program.scale
        found = kept_on(program, store, paper)
        whole = plain_whole(program, store, paper[0])
        self.assertEqual(found[0], tuple(whole))
        self.assertIsNone(plain_judge(program, store, found))
        begun, places, sums = [], {}, {fact: scale.nought for fact in whole}
        for k, line in enumerate(paper[1]):
            if type(line) is not tuple or len(line) != 3 or type(line[2]) is not tuple:
                continue
            if any(type(child) is not int or child not in places for child in line[2]):
                continue
            further = (line[0], line[1], tuple(places[child] for child in line[2]))
            told, wrong = plain_lines(program, store, begun + [further])
            if wrong is None and told[-1][0] in sums and scale.plus(sums[told[-1][0]], told[-1][1]) != sums[told[-1][0]]:
                sums[told[-1][0]] = scale.plus(sums[told[-1][0]], told[-1][1])
                places[k] = len(begun)
                begun.append(further)
        self.assertEqual(list(found[1][: len(begun)]), begun)
        sums = {fact: scale.nought for fact in whole}
        told = plain_lines(program, store, found[1])[0]
        for fact, worth, _ in told:
            self.assertNotEqual(scale.plus(sums[fact], worth), sums[fact])
            sums[fact] = scale.plus(sums[fact], worth)
        self.assertTrue(all([fact for fact, _, _ in told].count(fact) <= height(scale) for fact in whole))
        return found, begun, [fact for fact, _, _ in told[len(begun):]]

    def test_kept_on_told_in_full(self):
        program, store = case("a: n() * 2\nb: n() * 0\nc: n() :- n() * 3\nd: n() * 7", scale=LevelScale(7))
        n = ("n", ())
        lines = (("b", (), ()), ("a", (), ()), ("c", (), (1,)), ("d", (), ()), ("a", (), ()), None, ("c", (), (3,)))
        # b and c do not climb; d does.
        self.assertEqual(kept_on(program, store, ((n,), lines)), ((n,), (("a", (), ()), ("d", (), ()))))
        self.assertEqual(kept_on(program, store, ((), lines)), ((), ()))

    def test_a_line_whose_child_did_not_climb(self):
        program, store = case("a: o(@a) * 0\nb: n() :- o(@a) * 3\nc: o(@a) * 1")
        lines = (("a", (), ()), ("b", (), (0,)), ("c", (), ()), ("b", (), (2,)))
        found = kept_on(program, store, ((("n", ()),), lines))
        self.assertEqual(found, ((("n", ()), ("o", ("a",))), (("c", (), ()), ("b", (), (0,)))))

    def test_kept_on_behind_deeds(self):
        rng = random.Random(159)
        shorter = 0
        for program, store in many_cases(159, steady_scales(), 90):
            facts = ruled_facts(program, store)
            asked = rng.sample(facts, min(len(facts), 3))
            paper = paper_of(program, store, asked)
            for _ in range(2):
                deed = some_deed(rng, program, store)
                if deed is not None:
                    there = touched(program, store, deed)
                    program, store = edited(program, store, deed)
                    found, begun, further = self.check_kept_on(program, store, paper)
                    self.assertTrue(all(fact in there or fact not in paper[0] for fact in further))
                    shorter += len(begun) < len(paper[1])
                    paper = found
        self.assertGreater(shorter, 10)

    def test_kept_on_of_any_lines(self):
        rng = random.Random(160)
        for program, store in many_cases(160, steady_scales(), 60):
            facts = ruled_facts(program, store)
            lines = right_lines(rng, program, store, 12)
            for _ in range(3):
                lines.insert(rng.randint(0, len(lines)), rng.choice(ODD_VALUES + lines))
            self.check_kept_on(program, store, (tuple(rng.sample(facts, min(len(facts), 4))), tuple(lines)))

    def test_a_paper_that_is_let_by_stays(self):
        for program, store in many_cases(161, steady_scales(), 30):
            paper = paper_of(program, store, ruled_facts(program, store))
            self.assertEqual(kept_on(program, store, paper), paper)
            self.assertEqual(gone_on(program, store, paper), paper)

    def test_errors_of_kept_on(self):
        program, store = case(self.RULES)
        for bad in bad_papers((("o", ("a",)), ("n", ())), (None,)):
            with self.assertRaises(BadPaper, msg=bad):
                kept_on(program, store, bad)
        program, store = case(self.RULES, STORE.replace("2", "1"), TurnScale(2))
        for bad in (None, ((), ()), ((), (None,))):
            with self.assertRaises(NotSteady):
                kept_on(program, store, bad)

    def test_one_worth(self):
        program = Program(FRAME, lone(), [("a", ("n", ()), (), (), "w")])
        store = Store(FRAME, lone(), [], [])
        self.assertEqual(kept_lines(program, store, [("a", (), ())]), [("a", (), ())])
        self.assertEqual(kept_on(program, store, ((("n", ()),), (("a", (), ()),))), ((("n", ()),), ()))


class Misc(unittest.TestCase):
    def test_what_is_passed_can_be_changed(self):
        program, store = case(Kept.RULES)
        lines = [("a", ("b", "a"), ())]
        found = kept_lines(program, store, lines)
        lines.clear()
        found.append(None)
        self.assertEqual(kept_lines(program, store, [("a", ("b", "a"), ())]), [("a", ("b", "a"), ())])

    def test_settled_worths_of_the_edited(self):
        program, store = case(Kept.RULES)
        table, _ = settled(*edited(program, store, ("tell", "e", ("b", "b"), "2")))
        self.assertEqual(table[("n", ())], "7")
        self.assertEqual(made_program(FRAME, COUNTS, program.rules()), program)


if __name__ == "__main__":
    unittest.main()

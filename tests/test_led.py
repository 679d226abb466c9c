import random
import unittest

from tests.deedcases import some_deed
from tests.housecases import some_houses
from tests.plain import plain_settled
from tests.plainlines import many_cases, plain_judge, plain_lines, right_lines
from tests.samples import ODD_VALUES, small_scales, steady_scales, turning, yes_no
from tests.test_house import COUNTS, EDGE, FRAME, N, RULE, TELL, house, made, told
from worthhouse.edits import edited
from worthhouse.errors import BadName, BadThing, MixedScales, NotSteady, UnknownWorth
from worthhouse.frames import Frame
from worthhouse.house import House
from worthhouse.led import MoreThings, Renaming, led_deed, led_fact, led_house, led_paper, led_state, led_worth
from worthhouse.merging import in_order, merged
from worthhouse.papers import gone_on, paper_of
from worthhouse.resting import steady
from worthhouse.rounds import ruled_facts, settled
from worthhouse.rules import Program
from worthhouse.scalemaps import ScaleMap, all_maps
from worthhouse.scales import CostScale, CountScale, LevelScale
from worthhouse.stores import Store
from worthhouse.texts import read_program, read_store, write_program, write_store

NONE = Renaming([], [], [], [])
# Kinds, tables, things and labels of test_house are exchanged or get new names.
OTHER = Renaming([("k", "sort")], [("e", "t"), ("t", "e"), ("n", "none")], [("a", "b"), ("b", "a")], [("a", "zz"), ("z", "a")])


def turned(change):
    """The renaming that leads back."""
    return Renaming(*[[(newer, elder) for elder, newer in pairs] for pairs in change.pairs()])


TARGETS = [scale for scale in small_scales() if len(scale) <= 3]
MAPS = []


def maps_from(scale):
    """Maps from the scale, which are looked for once."""
    for source, found in MAPS:
        if source == scale:
            return found
    targets = TARGETS if len(scale) < 6 else TARGETS[:2]
    MAPS.append((scale, [one for target in targets for one in all_maps(scale, target)] + [ScaleMap.same(scale)]))
    return MAPS[-1][1]


def some_renaming(rng, program, store):
    """A renaming that keeps unlike names unlike: names are exchanged, or are new."""
    def pairs(names):
        newers = names + [f"new{k}" for k in range(len(names))]
        rng.shuffle(newers)
        chosen = [name for name in names if rng.random() < 0.7]
        left = [name for name in names if name not in chosen]
        found = list(zip(chosen, [newer for newer in newers if newer not in left]))
        return found

    tables = [name for name, _ in program.frame.told() + program.frame.ruled()]
    # Labels that deeds may put in later must stay unlike, too.
    labels = sorted(set(program.labels() + ["aa", "zz"]))
    return Renaming(pairs(program.frame.kinds()), pairs(tables), pairs([thing for thing, _ in store.things()]), pairs(labels))


def some_more(rng, program):
    kinds = program.frame.kinds()
    return MoreThings([(f"more{k}", rng.choice(kinds)) for k in range(rng.randint(0, 2)) if kinds])


def some_change(rng, program, store):
    way = rng.randrange(3)
    if way == 0:
        return rng.choice(maps_from(program.scale))
    return some_renaming(rng, program, store) if way == 1 else some_more(rng, program)


class Changes(unittest.TestCase):
    def test_pairs(self):
        self.assertEqual(NONE.pairs(), [[], [], [], []])
        lists = [[("k", "m")], [("e", "f"), ("f", "e")], [("a", "b")], [("a", "a")]]
        change = Renaming(*lists)
        self.assertEqual(change.pairs(), lists)
        self.assertEqual(Renaming(*[tuple(pairs) for pairs in lists]).pairs(), lists)
        more = MoreThings([("a", "k"), ("b", "m")])
        self.assertEqual(more.pairs(), [("a", "k"), ("b", "m")])
        for one in (change, more):
            before = one.pairs()
            one.pairs().clear()
            self.assertEqual(one.pairs(), before)
        change.pairs()[1].clear()
        self.assertEqual(change.pairs(), lists)
        lists[0].clear()
        self.assertEqual(change.pairs()[0], [("k", "m")])
        things = [("c", "k")]
        more = MoreThings(things)
        things.clear()
        self.assertEqual(more.pairs(), [("c", "k")])

    def test_bad_names_in_their_order(self):
        def bad(name, *lists):
            with self.assertRaises(BadName) as caught:
                Renaming(*lists)
            self.assertEqual(caught.exception.name, name)

        for odd in ("", "A", "0a", "a.0", "@a", "thirteensigns", "a b"):
            bad(odd, [("k", "m")], [(odd, "B")], [], [])
            bad(odd, [], [("a", odd), ("B", "b")], [("C", "c")], [])
            bad(odd, [], [], [], [("a", "b"), (odd, "c")])
        # Words come first, over all lists; then elders and newers that stood before, in the same order.
        bad("B", [("k", "k"), ("k", "k")], [], [], [("a", "B")])
        bad("k", [("k", "m"), ("k", "n")], [("a", "b"), ("a", "b")], [], [])
        bad("m", [("k", "m"), ("n", "m")], [], [], [])
        bad("k", [("k", "m"), ("k", "m")], [], [], [])
        bad("m", [("k", "m"), ("n", "m"), ("k", "n")], [], [], [])
        bad("b", [], [("a", "b")], [("a", "c")], [("a", "b"), ("c", "b")])
        # The same name in unlike lists, or as an elder and a newer, may be.
        Renaming([("a", "b"), ("b", "a")], [("a", "b")], [("a", "b")], [("a", "b")])


class States(unittest.TestCase):
    def test_a_renaming(self):
        program, store = made()
        found, found_store = led_state(OTHER, program, store)
        frame = Frame(["sort"], [("t", ("sort", "sort")), ("e", ())], [("p", ("sort", "sort")), ("none", ()), ("o", ("sort",))])
        self.assertEqual(found.frame, frame)
        self.assertEqual(write_program(found), "a: none() :- o(x) * 1\nzz: o(x) :- t(x y) * 1")
        self.assertEqual(write_store(found_store), "a of sort\nb of sort\ne() = 2\nt(a b) = 1")
        self.assertEqual(led_state(turned(OTHER), found, found_store), in_order(program, store))
        self.assertEqual(led_state(NONE, program, store), in_order(program, store))

    def test_things_in_rules_are_led_and_variables_stay(self):
        program = read_program(FRAME, COUNTS, "r: o(@a) :- e(a b), o(@b), a != @a, @b = b * 2")
        store = made()[1]
        found, _ = led_state(Renaming([], [], [("a", "c")], []), program, store)
        self.assertEqual(write_program(found), "r: o(@c) :- e(a b), o(@b), a != @c, @b = b * 2")

    def test_names_of_unlike_sorts(self):
        # Only the names of the one sort are led, also where another sort has the same names.
        frame = Frame(["a", "b"], [("b", ("a",)), ("c", ("b",))], [("a", ("a",))])
        program = read_program(frame, COUNTS, "a: a(a) :- b(a), b(@a) * 1\nb: a(@a) * 1")
        store = read_store(frame, COUNTS, "a of a\nb of b\nb(a) = 1")
        for k, expected in enumerate([
            ("a: a(a) :- b(a), b(@a) * 1\nb: a(@a) * 1", "a of x\nb of b\nb(a) = 1"),
            ("a: x(a) :- b(a), b(@a) * 1\nb: x(@a) * 1", "a of a\nb of b\nb(a) = 1"),
            ("a: a(a) :- b(a), b(@x) * 1\nb: a(@x) * 1", "x of a\nb of b\nb(x) = 1"),
            ("b: a(@a) * 1\nx: a(a) :- b(a), b(@a) * 1", "a of a\nb of b\nb(a) = 1"),
        ]):
            lists = [[], [], [], []]
            lists[k] = [("a", "x")]
            found, found_store = led_state(Renaming(*lists), program, store)
            self.assertEqual((write_program(found), write_store(found_store)), expected)

    def test_bad_names(self):
        program, store = made()
        for lists, name in [
            ([[], [("e", "t")], [("a", "b")], [("a", "z")]], "t"),
            ([[], [("n", "t")], [("a", "b")], [("a", "z")]], "t"),
            ([[], [("e", "n"), ("o", "x")], [], []], "n"),
            ([[], [], [("b", "a")], [("a", "z")]], "a"),
            ([[], [], [], [("a", "z")]], "z"),
        ]:
            with self.assertRaises(BadName) as caught:
                led_state(Renaming(*lists), program, store)
            self.assertEqual(caught.exception.name, name)
            for call in (led_paper, lambda change, program, store, _: led_house(change, House(program, store))):
                with self.assertRaises(BadName) as caught:
                    call(Renaming(*lists), program, store, ((), ()))
                self.assertEqual(caught.exception.name, name)
        frame = Frame(["k", "m"], [("t", ())], [])
        with self.assertRaises(BadName) as caught:
            led_state(Renaming([("k", "m")], [("t", "u")], [], []), Program(frame, COUNTS, []), Store(frame, COUNTS, [], []))
        self.assertEqual(caught.exception.name, "m")
        # What is not there does not matter.
        self.assertEqual(len(led_state(Renaming([("m", "k")], [("zz", "e")], [("c", "a")], [("m", "a")]), program, store)[0]), 2)

    def test_a_map(self):
        program, store = made()
        target = yes_no()
        change = ScaleMap(COUNTS, target, ["no"] + ["yes"] * 7)
        found, found_store = led_state(change, program, store)
        self.assertEqual((found.scale, found_store.scale), (target, target))
        self.assertEqual(write_program(found), "a: o(x) :- e(x y) * yes\nz: n() :- o(x) * yes")
        self.assertEqual(write_store(found_store), "b of k\na of k\ne(b a) = yes\nt() = yes")
        odd = ScaleMap.same(CountScale(6))
        for call in (lambda: led_state(odd, program, store), lambda: led_paper(odd, program, store, None), lambda: led_house(odd, house())):
            with self.assertRaises(MixedScales):
                call()

    def test_more_things(self):
        program, store = made()
        found, found_store = led_state(MoreThings([("c", "k"), ("aa", "k")]), program, store)
        self.assertEqual(found, in_order(program, store)[0])
        self.assertEqual(found_store.things(), [("b", "k"), ("a", "k"), ("c", "k"), ("aa", "k")])
        self.assertEqual(found_store.rows(), sorted(store.rows()))
        self.assertEqual(led_state(MoreThings([]), program, store), in_order(program, store))
        for things, error, name in [
            ([("c", "k"), ("C", "m")], BadName, "C"), ([("c", "m"), ("C", "k")], BadThing, "c"), ([("a", "k")], BadThing, "a"), ([("c", "k"), ("c", "k")], BadThing, "c"),
        ]:
            for call in (lambda change: led_state(change, program, store), lambda change: led_paper(change, program, store, None), lambda change: led_house(change, house())):
                with self.assertRaises(error) as caught:
                    call(MoreThings(things))
                self.assertEqual(caught.exception.name, name)

    def test_things_of_kinds_that_had_none(self):
        frame = Frame(["k"], [], [("o", ("k",)), ("n", ())])
        program = read_program(frame, COUNTS, "a: n() :- o(x) * 1\nb: o(x) :- o(x), n() * 1")
        store = Store(frame, COUNTS, [], [])
        found, found_store = led_state(MoreThings([("c", "k")]), program, store)
        self.assertEqual(settled(found, found_store)[0], {("o", ("c",)): "0", ("n", ()): "0"})
        paper = paper_of(program, store, [("n", ())])
        self.assertEqual(paper, ((("n", ()),), ()))
        self.assertEqual(led_paper(MoreThings([("c", "k")]), program, store, paper), ((("o", ("c",)), ("n", ())), ()))

    def test_settled_worths_are_led(self):
        rng = random.Random(241)
        unlike = 0
        for program, store in many_cases(241, steady_scales() + [turning()], 120):
            change = some_change(rng, program, store)
            led, led_store = led_state(change, program, store)
            self.assertEqual(in_order(led, led_store), (led, led_store))
            if not steady(program.scale):
                continue
            self.assertTrue(steady(led.scale))
            ahead, behind = plain_settled(program, store)[0], plain_settled(led, led_store)[0]
            expected = {led_fact(change, fact): led_worth(change, worth) for fact, worth in ahead.items()}
            for fact in behind:
                self.assertEqual(behind[fact], expected.get(fact, led.scale.nought))
            self.assertTrue(all(fact in behind for fact in expected))
            unlike += led != program
        self.assertGreater(unlike, 40)

    def test_back_by_the_turned_renaming(self):
        rng = random.Random(242)
        for program, store in many_cases(242, steady_scales(), 60):
            change = some_renaming(rng, program, store)
            self.assertEqual(led_state(turned(change), *led_state(change, program, store)), in_order(program, store))
            for fact in ruled_facts(program, store)[:5]:
                self.assertEqual(led_fact(turned(change), led_fact(change, fact)), fact)


class Parts(unittest.TestCase):
    def test_facts_and_worths(self):
        more, same = MoreThings([("c", "k")]), ScaleMap(COUNTS, yes_no(), ["no"] + ["yes"] * 7)
        fact = ("e", ("b", "a"))
        self.assertEqual(led_fact(OTHER, fact), ("t", ("a", "b")))
        self.assertEqual(led_fact(OTHER, ("p", ())), ("p", ()))
        self.assertEqual((led_fact(more, fact), led_fact(same, fact)), (fact, fact))
        self.assertEqual((led_worth(same, "3"), led_worth(OTHER, "3"), led_worth(more, "3")), ("yes", "3", "3"))
        for odd in ODD_VALUES + ["8", "yes"]:
            if odd != "0":
                with self.assertRaises(UnknownWorth) as caught:
                    led_worth(same, odd)
                self.assertIs(caught.exception.name, odd)
                self.assertIs(led_worth(OTHER, odd), odd)

    def test_deeds(self):
        rule = ("a", ("o", ("x",)), (("e", ("x", "@a")), ("o", ("@b",))), (("unlike", "x", "@a"),), "3")
        deeds = [("tell", "e", ("a", "b"), "2"), ("raise", "t", (), "0"), ("clear", "e", ("a", "a")), ("rule", rule), ("unrule", "z"), ("merge", 3)]
        self.assertEqual([led_deed(OTHER, deed) for deed in deeds], [
            ("tell", "t", ("b", "a"), "2"), ("raise", "e", (), "0"), ("clear", "t", ("b", "b")),
            ("rule", ("zz", ("o", ("x",)), (("t", ("x", "@b")), ("o", ("@a",))), (("unlike", "x", "@b"),), "3")), ("unrule", "a"), ("merge", 3),
        ])
        self.assertEqual([led_deed(MoreThings([("c", "k")]), deed) for deed in deeds], deeds)
        change = ScaleMap(COUNTS, yes_no(), ["no"] + ["yes"] * 7)
        self.assertEqual([led_deed(change, deed) for deed in deeds], [
            ("tell", "e", ("a", "b"), "yes"), ("raise", "t", (), "no"), ("clear", "e", ("a", "a")), ("rule", rule[:4] + ("yes",)), ("unrule", "z"), ("merge", 3),
        ])
        for deed in (("tell", "e", ("a", "b"), "8"), ("raise", "t", (), "yes"), ("rule", rule[:4] + ("no",))):
            with self.assertRaises(UnknownWorth) as caught:
                led_deed(change, deed)
            self.assertIn(caught.exception.name, ("8", "yes", "no"))

    def test_led_deeds_lead_led_states(self):
        rng = random.Random(243)
        for program, store in many_cases(243, steady_scales() + [turning()], 120):
            change, deed = some_change(rng, program, store), some_deed(rng, program, store)
            if deed is not None:
                behind = edited(program, store, deed)
                self.assertEqual(led_state(change, *behind), edited(*led_state(change, program, store), led_deed(change, deed)))

    def test_led_states_are_merged(self):
        rng = random.Random(244)
        for program, store in many_cases(244, steady_scales(), 60):
            change, elder = some_change(rng, program, store), in_order(program, store)
            told_rows = [deed for deed in [some_deed(rng, *elder) for _ in range(6)] if deed and deed[0] in ("tell", "clear")]
            rules = [deed for deed in [some_deed(rng, *elder) for _ in range(6)] if deed and deed[0] in ("rule", "unrule")]
            if told_rows and rules:
                one, other = edited(*elder, told_rows[0]), edited(*elder, rules[0])
                three = [led_state(change, *state) for state in (elder, one, other)]
                self.assertEqual(led_state(change, *merged(elder, one, other)), merged(*three))


class Papers(unittest.TestCase):
    def test_told_in_full(self):
        program, store = made()
        paper = ((N, ("o", ("b",)), ("o", ("a",))), (("a", ("b", "a"), ()), ("z", ("b",), (0,))))
        self.assertEqual(led_paper(OTHER, program, store, paper), ((("none", ()), ("o", ("a",)), ("o", ("b",))), (("zz", ("a", "b"), ()), ("a", ("a",), (0,)))))
        change = ScaleMap(COUNTS, yes_no(), ["no"] + ["yes"] * 7)
        self.assertEqual(led_paper(change, program, store, paper), paper)
        found = led_paper(MoreThings([("c", "k")]), program, store, paper)
        self.assertEqual(found, ((N, ("o", ("b",)), ("o", ("a",)), ("o", ("c",))), paper[1]))
        self.assertEqual(led_paper(MoreThings([]), program, store, ((N,), ()))[1], (("a", ("b", "a"), ()), ("z", ("b",), (0,))))

    def test_let_by_to_let_by(self):
        rng = random.Random(245)
        for program, store in many_cases(245, steady_scales(), 90):
            facts = ruled_facts(program, store)
            paper = paper_of(program, store, rng.sample(facts, min(len(facts), 3)))
            change = some_change(rng, program, store)
            state = led_state(change, program, store)
            found = led_paper(change, program, store, paper)
            self.assertIsNone(plain_judge(*state, found))
            if isinstance(change, Renaming):
                self.assertEqual(led_paper(turned(change), *state, found), paper)
                self.assertEqual(found[0], tuple(led_fact(change, fact) for fact in paper[0]))
            elif isinstance(change, MoreThings):
                self.assertEqual(found, gone_on(*state, paper))
            else:
                self.assertEqual(found, paper)

    def test_right_lines_stay_right(self):
        rng = random.Random(246)
        for program, store in many_cases(246, steady_scales() + [turning()], 60):
            paper = (tuple(ruled_facts(program, store)), tuple(right_lines(rng, program, store, 10)))
            change = some_change(rng, program, store)
            if isinstance(change, MoreThings) and not steady(program.scale):
                with self.assertRaises(NotSteady):
                    led_paper(change, program, store, paper)
                continue
            found = led_paper(change, program, store, paper)
            self.assertEqual(len(found[1][: len(paper[1])]), len(paper[1]))
            self.assertIsNone(plain_lines(*led_state(change, program, store), found[1])[1])

    def test_not_steady_comes_behind_the_errors_of_led_state(self):
        frame = FRAME
        program, store = Program(frame, turning(), []), Store(frame, turning(), [("a", "k")], [])
        with self.assertRaises(NotSteady):
            led_paper(MoreThings([("c", "k")]), program, store, ((), ()))
        with self.assertRaises(BadThing):
            led_paper(MoreThings([("a", "k")]), program, store, ((), ()))
        self.assertEqual(led_paper(NONE, program, store, ((), ())), ((), ()))


class Houses(unittest.TestCase):
    def led(self):
        one = house()
        one.branch("b")
        one.do(TELL)
        one.do(("rule", RULE))
        one.go("b")
        one.do(EDGE)
        one.merge("main")
        one.undo()
        one.watch([("o", ("b",)), N])
        return one

    def test_a_renaming(self):
        one = self.led()
        before = told(one)
        found = led_house(OTHER, one)
        self.assertEqual(told(one), before)
        self.assertEqual(found.log(), [
            (0, ("tell", "e", (), "5")), (1, ("rule", ("m", ("none", ()), (("e", ()),), (), "1"))), (0, ("raise", "t", ("b", "b"), "3")), (3, ("merge", 2)),
        ])
        self.assertEqual((found.branches(), found.here(), found.trail("b"), found.mark("b"), found.trail("main")), (["main", "b"], "b", [0, 3, 4], 1, [0, 1, 2]))
        self.assertEqual(found.watched(), [("o", ("a",)), ("none", ())])
        self.assertEqual([found.state(k) for k in range(5)], [led_state(OTHER, *one.state(k)) for k in range(5)])
        self.assertEqual(led_house(turned(OTHER), found), one)
        self.assertEqual(found.worth(("none", ())), one.worth(N))

    def test_labels_that_fall_together(self):
        one = house()
        one.do(("unrule", "a"))
        one.do(("rule", RULE))
        # In no state there are both a and m; but over all states they must stay unlike.
        with self.assertRaises(BadName) as caught:
            led_house(Renaming([], [], [], [("a", "m")]), one)
        self.assertEqual(caught.exception.name, "m")
        self.assertEqual(led_house(Renaming([], [], [], [("a", "m"), ("m", "a")]), one).state(2)[0].labels(), ["a", "z"])
        # The errors of led_state, state by state, come first.
        one.do(("rule", ("b", *RULE[1:])))
        with self.assertRaises(BadName) as caught:
            led_house(Renaming([], [], [], [("a", "m"), ("b", "z")]), one)
        self.assertEqual(caught.exception.name, "z")
        with self.assertRaises(BadName) as caught:
            led_house(Renaming([], [], [], [("a", "m")]), one)
        self.assertEqual(caught.exception.name, "m")

    def test_a_map_and_more_things(self):
        one = self.led()
        change = ScaleMap(COUNTS, yes_no(), ["no"] + ["yes"] * 7)
        found = led_house(change, one)
        self.assertEqual([deed for _, deed in found.log()], [led_deed(change, deed) for _, deed in one.log()])
        self.assertEqual([found.worth_at(k, N) for k in range(5)], ["yes"] * 5)
        more = led_house(MoreThings([("c", "k")]), one)
        self.assertEqual(more.log(), one.log())
        self.assertEqual([more.worth_at(k, N) for k in range(5)], [one.worth_at(k, N) for k in range(5)])
        self.assertEqual([more.worth_at(k, ("o", ("c",))) for k in range(5)], ["0"] * 5)
        self.assertEqual(len(more.kept()[0]), len(one.kept()[0]) + 1)

    def test_a_led_house_goes_on(self):
        one = self.led()
        found = led_house(MoreThings([("c", "k")]), one)
        self.assertEqual(found.redo(), 4)
        self.assertEqual(found.do(("tell", "e", ("c", "a"), "1")), 5)
        self.assertEqual((found.worth(("o", ("c",))), len(one)), ("1", 5))

    def test_random_houses(self):
        rng = random.Random(247)
        for one, _, _ in some_houses(rng, 247, 60, 25):
            change = some_change(rng, *one.state(0))
            before = told(one)
            found = led_house(change, one)
            self.assertEqual(told(one), before)
            self.assertEqual([found.state(k) for k in range(len(one))], [led_state(change, *one.state(k)) for k in range(len(one))])
            self.assertEqual([elder for elder, _ in found.log()], [elder for elder, _ in one.log()])
            self.assertEqual(found.watched(), [led_fact(change, fact) for fact in one.watched()])
            self.assertEqual((found.here(), found.present(), found.branches()), (one.here(), one.present(), one.branches()))
            # The led states are those that the led log makes of the led state 0.
            again = House(*led_state(change, *one.state(0)))
            for number, (elder, deed) in enumerate(found.log(), 1):
                if deed[0] != "merge":
                    self.assertEqual(edited(*found.state(elder), deed), found.state(number))
            self.assertEqual(again.state(0), found.state(0))
            for fact in found.watched():
                self.assertEqual(found.worth(fact), settled(*found.now())[0][fact])
            if isinstance(change, Renaming):
                self.assertEqual(led_house(turned(change), found), one)


class Scales(unittest.TestCase):
    def test_maps_of_families(self):
        program, store = made()
        for change in all_maps(COUNTS, LevelScale(1)) + all_maps(COUNTS, CountScale(2)):
            led, led_store = led_state(change, program, store)
            self.assertEqual(settled(led, led_store)[0][N], change(settled(program, store)[0][N]))
        self.assertEqual(all_maps(CostScale(1), COUNTS), [])


if __name__ == "__main__":
    unittest.main()

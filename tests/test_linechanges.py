import random
import unittest

from tests.plain import plain_uses
from tests.plainlines import many_cases, plain_judge, plain_lines, right_lines
from tests.samples import ODD_VALUES, steady_scales, turning
from tests.test_asking import misfits
from tests.test_judging import bad_papers
from tests.turncases import FORMS, some_turns, with_a_twin
from worthhouse.compiling import store_over
from worthhouse.errors import BadPaper, BadTurn, NoLine, UnknownThing
from worthhouse.frames import Frame
from worthhouse.judging import judge_paper, sums_of
from worthhouse.linechanges import lines_back, lines_forth
from worthhouse.lines import line_facts
from worthhouse.papers import gone_on, paper_of
from worthhouse.resting import within
from worthhouse.rounds import ruled_facts, settled
from worthhouse.scales import CountScale, TurnScale
from worthhouse.texts import read_program, read_store
from worthhouse.turns import kept_names, turned

COUNTS = CountScale(7)
FRAME = Frame(["k"], [("e", ("k", "k")), ("t", ())], [("p", ("k", "k")), ("o", ("k",)), ("n", ()), ("z", ("k",))])
STORE = "a of k\nb of k\nc of k\ne(a b) = 1\ne(b c) = 1\ne(b b) = 1\nt() = 1"


def case(rules, store=STORE, scale=COUNTS):
    return read_program(FRAME, scale, rules), read_store(FRAME, scale, store)


def p(x, y):
    return ("p", (x, y))


def o(x):
    return ("o", (x,))


N = ("n", ())


class Checked(unittest.TestCase):
    def check(self, rules, turn, ahead, forth, back=None):
        """A paper ahead of a turn, the one that it becomes, and the one that this becomes again."""
        program, store = case(rules)
        sums_of(program, store, ahead)
        self.assertEqual(lines_forth(program, store, turn, ahead), forth)
        behind = turned(program, turn)
        sums_of(behind, store_over(behind.frame, store), forth)
        if turn[0] != "join":
            self.assertEqual(lines_back(program, store, turn, forth), ahead if back is None else back)

    def check_back(self, rules, turn, behind, back):
        program, store = case(rules)
        sums_of(turned(program, turn), store_over(turned(program, turn).frame, store), behind)
        self.assertEqual(lines_back(program, store, turn, behind), back)
        sums_of(program, store, back)


class Unfold(Checked):
    RULES = "a: n() :- o(x), p(x y) * 1\nb: o(x) :- e(x y) * 1\nc: o(v) :- p(w v) * 1\nd: p(x y) :- e(x y) * 1"

    def test_told_in_full(self):
        facts = (N, o("b"), p("a", "b"), p("b", "c"), p("b", "b"))
        lines = (("d", ("b", "c"), ()), ("b", ("b", "c"), ()), ("d", ("a", "b"), ()), ("c", ("b", "a"), (2,)), ("a", ("b", "c"), (1, 0)), ("a", ("b", "c"), (3, 0)))
        # a.0: n() :- e(x u1), p(x y): x y u1 come as x, u1, y; a.1: n() :- p(u1 x), p(x y).
        forth = lines[:4] + (("a.0", ("b", "c", "c"), (0,)), ("a.1", ("a", "b", "c"), (2, 0)))
        self.check(self.RULES, ("unfold", "a", 0), (facts, lines), (facts, forth))

    def test_back_a_line_is_put_in(self):
        behind = ((N, p("b", "b")), (("d", ("b", "b"), ()), ("a.0", ("b", "c", "b"), (0,)), ("a.0", ("b", "b", "b"), (0,)), ("a.1", ("b", "b", "b"), (0, 0))))
        back = (
            (N, p("b", "b"), o("b")),
            (
                ("d", ("b", "b"), ()), ("b", ("b", "c"), ()), ("a", ("b", "b"), (1, 0)), ("b", ("b", "b"), ()),
                ("a", ("b", "b"), (3, 0)), ("c", ("b", "b"), (0,)), ("a", ("b", "b"), (5, 0)),
            ),
        )
        self.check_back(self.RULES, ("unfold", "a", 0), behind, back)

    def test_back_a_line_that_is_there(self):
        behind = ((o("b"), N, p("b", "b")), (("b", ("b", "c"), ()), ("d", ("b", "b"), ()), ("a.0", ("b", "c", "b"), (1,)), ("b", ("b", "b"), ())))
        back = (behind[0], (("b", ("b", "c"), ()), ("d", ("b", "b"), ()), ("a", ("b", "b"), (0, 1)), ("b", ("b", "b"), ())))
        self.check_back(self.RULES, ("unfold", "a", 0), behind, back)
        # A line that was put in stands for a later one that is the same, also as a child.
        rules = self.RULES + "\nf: z(x) :- o(x) * 1"
        behind = ((N, p("b", "b"), o("b"), ("z", ("b",))), (("d", ("b", "b"), ()), ("a.0", ("b", "c", "b"), (0,)), ("b", ("b", "c"), ()), ("f", ("b",), (2,))))
        back = (behind[0], (("d", ("b", "b"), ()), ("b", ("b", "c"), ()), ("a", ("b", "b"), (1, 0)), ("f", ("b",), (1,))))
        self.check_back(rules, ("unfold", "a", 0), behind, back)

    def test_a_rule_by_itself(self):
        rules = "a: p(x z) :- p(x y), e(y z) * 1\nb: p(x y) :- e(x y) * 1"
        facts = (p("a", "b"), p("a", "c"))
        lines = (("b", ("a", "b"), ()), ("a", ("a", "b", "b"), (0,)), ("a", ("a", "b", "b"), (1,)), ("a", ("a", "c", "b"), (2,)))
        # a.0: p(x z) :- p(x u2), e(u2 y), e(y z), with the variables x z u2 y; a.1: p(x z) :- e(x y), e(y z).
        forth = (("b", ("a", "b"), ()), ("a.1", ("a", "b", "b"), ()), ("a.0", ("a", "b", "b", "b"), (0,)), ("a.0", ("a", "c", "b", "b"), (1,)))
        self.check(rules, ("unfold", "a", 0), (facts, lines), (facts, forth))

    def test_heads_with_a_variable_twice_and_things(self):
        rules = "a: o(y) :- p(x y), e(x z) * 1\nb: p(v v) :- e(v w) * 1\nc: p(@a v) :- e(v v) * 1"
        facts = (p("b", "b"), p("a", "b"), o("b"))
        lines = (("b", ("b", "c"), ()), ("c", ("b",), ()), ("a", ("b", "b", "b"), (0,)), ("a", ("b", "a", "b"), (1,)))
        # a.0: o(y) :- e(y u1), e(y z); a.1: o(y) :- e(y y), e(@a z).
        forth = lines[:2] + (("a.0", ("b", "c", "b"), ()), ("a.1", ("b", "b"), ()))
        self.check(rules, ("unfold", "a", 0), (facts, lines), (facts, forth))


class Fold(Checked):
    RULES = "a: n() :- o(x), p(x y), o(y), e(y z) * 1\nb: o(x) :- e(x y) * 1\nd: p(x y) :- e(x y) * 1"

    def test_told_in_full(self):
        facts = (N, o("b"), p("b", "b"))
        start = (("b", ("b", "b"), ()), ("b", ("b", "c"), ()), ("d", ("b", "b"), ()))
        lines = start + (("a", ("b", "b", "c"), (0, 2, 1)), ("a", ("b", "b", "b"), (0, 2, 1)), ("a", ("b", "b", "b"), (1, 2, 0)))
        # The new table has x, which p has, and y; the rule is n() :- n.0(x y), p(x y), e(y z).
        forth = (
            facts + (("n.0", ("b", "b")),),
            start + (("n.0", ("b", "b"), (0, 1)), ("a", ("b", "b", "c"), (3, 2)), ("a", ("b", "b", "b"), (3, 2)), ("n.0", ("b", "b"), (1, 0)), ("a", ("b", "b", "b"), (6, 2))),
        )
        self.check(self.RULES, ("fold", "a", (0, 2)), (facts, lines), forth)

    def test_a_place_in_the_middle(self):
        facts = (N, o("b"), p("b", "b"))
        start = (("b", ("b", "b"), ()), ("d", ("b", "b"), ()))
        lines = start + (("a", ("b", "b", "c"), (0, 1, 0)),)
        forth = (facts + (("n.0", ("b", "b")),), start + (("n.0", ("b", "b"), (1, 0)), ("a", ("b", "b", "c"), (0, 2))))
        self.check(self.RULES, ("fold", "a", (1, 2)), (facts, lines), forth)

    def test_told_atoms_and_variables_that_go(self):
        facts = (N, o("b"), p("b", "b"))
        start = (("b", ("b", "b"), ()), ("d", ("b", "b"), ()))
        lines = start + (("a", ("b", "b", "c"), (0, 1, 0)), ("a", ("b", "b", "b"), (0, 1, 0)))
        # Both lines become the same one but for their new children.
        forth = (facts + (("n.0", ("b",)),), start + (("n.0", ("b", "c"), ()), ("a", ("b", "b"), (0, 1, 0, 2)), ("n.0", ("b", "b"), ()), ("a", ("b", "b"), (0, 1, 0, 4))))
        self.check(self.RULES, ("fold", "a", (3,)), (facts, lines), forth)

    def test_children_ahead_and_behind(self):
        rules = "a: n() :- o(x), t(), p(x y), o(y), z(y) * 1\nb: o(x) :- e(x y) * 1\nd: p(x y) :- e(x y) * 1\nf: z(x) :- e(x x) * 1"
        facts = (N, o("b"), o("a"), p("a", "b"), ("z", ("b",)))
        start = (("b", ("b", "b"), ()), ("d", ("a", "b"), ()), ("f", ("b",), ()), ("b", ("a", "b"), ()))
        lines = start + (("a", ("a", "b"), (3, 1, 0, 2)),)
        for places, forth in [
            ((2,), (("n.0", ("a", "b"), (1,)), ("a", ("a", "b"), (3, 4, 0, 2)))),
            ((3,), (("n.0", ("b",), (0,)), ("a", ("a", "b"), (3, 1, 4, 2)))),
            ((2, 3), (("n.0", ("a", "b"), (1, 0)), ("a", ("a", "b"), (3, 4, 2)))),
            ((1, 3), (("n.0", ("b",), (0,)), ("a", ("a", "b"), (3, 4, 1, 2)))),
            ((0, 4), (("n.0", ("a", "b"), (3, 2)), ("a", ("a", "b"), (4, 1, 0)))),
        ]:
            table = ("n.0", forth[0][1])
            self.check(rules, ("fold", "a", places), (facts, lines), (facts + (table,), start + forth))

    def test_back_lines_of_the_new_table_go(self):
        behind = ((("n.0", ("b",)), N, ("n.0", ("a",))), (("n.0", ("b", "c"), ()), ("n.0", ("a", "b"), ())))
        self.check_back(self.RULES, ("fold", "a", (3,)), behind, ((N,), ()))

    def test_facts_once(self):
        rules = "a: z(x) :- e(x y) * 1\nb: n() :- z(x) * 1"
        facts = (("z", ("a",)), ("z", ("b",)))
        lines = (("a", ("b", "c"), ()), ("a", ("a", "b"), ()), ("a", ("b", "b"), ()))
        forth = (facts + (("n.0", ("b",)), ("n.0", ("a",))), (("n.0", ("b", "c"), ()), ("a", ("b",), (0,)), ("n.0", ("a", "b"), ()), ("a", ("a",), (2,)), ("n.0", ("b", "b"), ()), ("a", ("b",), (4,))))
        self.check(rules, ("fold", "a", (0,)), (facts, lines), forth)


class Others(Checked):
    def test_drop(self):
        rules = "a: n() :- o(x) * 1\nb: o(x) :- e(x y) * 1\nc: z(x) :- o(x) * 1"
        facts = (N, ("z", ("b",)), o("b"), ("z", ("c",)))
        lines = (("b", ("b", "b"), ()), ("c", ("b",), (0,)), ("b", ("b", "c"), ()), ("a", ("b",), (2,)))
        left = ((N, o("b")), (lines[0], lines[2], ("a", ("b",), (1,))))
        self.check(rules, ("drop", ("n",)), (facts, lines), left, left)
        self.check(rules, ("drop", ()), (facts, lines), ((), ()), ((), ()))
        self.check(rules, ("drop", ("z", "n")), (facts, lines), (facts, lines))
        # Back the paper is as it is, also with facts of other tables.
        self.check_back(rules, ("drop", ("o",)), ((N, o("b")), (lines[0],)), ((N, o("b")), (lines[0],)))

    def test_order(self):
        rules = "a: n() :- o(x), e(y z), p(x y) * 1\nb: o(x) :- e(x y) * 1\nd: p(x y) :- e(x y) * 1"
        facts = (N, o("a"), p("a", "b"))
        start = (("b", ("a", "b"), ()), ("d", ("a", "b"), ()))
        lines = start + (("a", ("a", "b", "c"), (0, 1)),)
        self.check(rules, ("order", "a", (2, 1, 0)), (facts, lines), (facts, start + (("a", ("a", "b", "c"), (1, 0)),)))
        self.check(rules, ("order", "a", (1, 2, 0)), (facts, lines), (facts, start + (("a", ("b", "c", "a"), (1, 0)),)))
        self.check(rules, ("order", "a", (0, 2, 1)), (facts, lines), (facts, start + (("a", ("a", "b", "c"), (0, 1)),)))

    def test_join(self):
        rules = "a: o(x) :- e(x y) * 1\nb: o(x) :- e(x y) * 2\nc: n() :- o(x), o(x) * 1"
        facts = (N, o("b"))
        lines = (("b", ("b", "c"), ()), ("a", ("b", "c"), ()), ("c", ("b",), (0, 1)), ("c", ("b",), (1, 1)), ("a", ("b", "b"), ()), ("c", ("b",), (1, 4)))
        # Lines that are the same behind the turn stand once, also as children.
        for turn, label in ((("join", "a", "b"), "a"), (("join", "b", "a"), "b")):
            led = ((label, ("b", "c"), ()), ("c", ("b",), (0, 0)), (label, ("b", "b"), ()), ("c", ("b",), (0, 2)))
            self.check(rules, turn, (facts, lines), (facts, led))

    def test_part(self):
        rules = "a: p(x y) :- e(x y), o(x) * 1\nb: o(x) :- e(x y) * 1"
        facts = (o("b"), p("b", "b"), p("b", "c"))
        start = (("b", ("b", "c"), ()),)
        lines = start + (("a", ("b", "c"), (0,)), ("a", ("b", "b"), (0,)))
        self.check(rules, ("part", "a", "y", "x"), (facts, lines), (facts, start + (("a.1", ("b", "c"), (0,)), ("a.0", ("b", "b"), (0,)))))


class Special(Checked):
    RULES = "a: p(x z) :- p(x y), p(y z) * 1\nb: p(x y) :- e(x y) * 1\nc: n() :- p(@b x), p(x @c), p(y z) * 1\nd: p(@b @c) :- t() * 1"

    def test_told_in_full(self):
        facts = (p("b", "c"), N, p("b", "b"), p("a", "b"), p("a", "c"))
        lines = (
            ("b", ("b", "b"), ()), ("d", (), ()), ("a", ("b", "c", "b"), (0, 1)), ("b", ("a", "b"), ()),
            ("a", ("a", "c", "b"), (3, 2)), ("c", ("b", "a", "c"), (0, 2, 4)), ("c", ("b", "b", "b"), (0, 1, 0)),
        )
        # a: p(x z) :- p(x y), p(y z); its copy n.0(z) :- n.0(y), p(y z); c: n() :- n.0(x), p(x @c), p(y z).
        forth = (
            facts + (("n.0", ("c",)), ("n.0", ("b",))),
            (
                ("b", ("b", "b"), ()), ("b.0", ("b",), ()), ("d", (), ()), ("d.0", (), ()),
                ("a", ("b", "c", "b"), (0, 2)), ("a.0", ("c", "b"), (1, 2)), ("b", ("a", "b"), ()),
                ("a", ("a", "c", "b"), (6, 4)), ("c", ("b", "a", "c"), (1, 4, 7)), ("c", ("b", "b", "b"), (1, 2, 0)),
            ),
        )
        self.check(self.RULES, ("special", "p", 0, "b"), (facts, lines), forth)

    def test_back_from_the_new_table_alone(self):
        behind = ((("n.0", ("c",)), ("n.0", ("b",)), p("b", "c"), N), (("b.0", ("b",), ()), ("b", ("b", "c"), ()), ("b.0", ("c",), ()), ("d.0", (), ()), ("c", ("b", "b", "c"), (0, 1, 1))))
        back = ((p("b", "c"), p("b", "b"), N), (("b", ("b", "b"), ()), ("b", ("b", "c"), ()), ("d", (), ()), ("c", ("b", "b", "c"), (0, 1, 1))))
        self.check_back(self.RULES, ("special", "p", 0, "b"), behind, back)

    def test_a_second_place_and_a_test(self):
        rules = "a: p(x y) :- e(x y), y != @c * 1\nb: n() :- p(x @b), p(x @c) * 1\nd: p(x x) :- t(), e(x z) * 1"
        facts = (p("a", "b"), p("b", "b"))
        lines = (("a", ("a", "b"), ()), ("d", ("b", "c"), ()))
        forth = (facts + (("n.0", ("a",)), ("n.0", ("b",))), (lines[0], ("a.0", ("a",), ()), lines[1], ("d.0", ("c",), ())))
        self.check(rules, ("special", "p", 1, "b"), (facts, lines), forth)


class Many(unittest.TestCase):
    def led_sums(self, made, store, paper, behind, over, led):
        ahead, sums = sums_of(made, store, paper), sums_of(behind, over, led)
        return [(fact, ahead[fact], sums[fact]) for fact in ahead if fact in sums]

    def test_forth_and_back(self):
        rng = random.Random(131)
        many = dict.fromkeys(FORMS, 0)
        for made, store in many_cases(131, steady_scales(), 140):
            made = with_a_twin(rng, made)
            turns = some_turns(rng, made, store)
            for turn in turns[:4] + [turn for turn in turns if turn[0] in ("join", "drop")][:1]:
                try:
                    behind = turned(made, turn)
                except BadTurn:
                    continue
                over = store_over(behind.frame, store)
                many[turn[0]] += 1
                facts = ruled_facts(made, store)
                let_by = paper_of(made, store, rng.sample(facts, min(len(facts), 3)))
                for paper in (let_by, (tuple(facts), tuple(right_lines(rng, made, store, 12)))):
                    self.forth(made, store, turn, behind, over, paper, paper is let_by)
                facts = ruled_facts(behind, over)
                let_by = paper_of(behind, over, rng.sample(facts, min(len(facts), 3)))
                for paper in (let_by, (tuple(facts), tuple(right_lines(rng, behind, over, 12)))):
                    if turn[0] == "join":
                        with self.assertRaises(BadTurn):
                            lines_back(made, store, turn, paper)
                    else:
                        self.back(made, store, turn, behind, over, paper, paper is let_by)
        self.assertTrue(all(number > 3 for number in many.values()), many)

    def forth(self, made, store, turn, behind, over, paper, is_let_by):
        led = lines_forth(made, store, turn, paper)
        self.assertIsNone(plain_lines(behind, over, led[1])[1])
        for fact, ahead, later in self.led_sums(made, store, paper, behind, over, led):
            self.assertTrue(within(made.scale, ahead, later) if turn[0] == "join" and not is_let_by else ahead == later)
        kept = kept_names(made, turn)
        self.assertEqual([fact for fact in paper[0] if fact[0] in kept], [fact for fact in led[0] if fact in paper[0]])
        if is_let_by:
            further = gone_on(behind, over, led)
            self.assertEqual(further[1][: len(led[1])], led[1])
            self.assertIsNone(plain_judge(behind, over, further))

    def back(self, made, store, turn, behind, over, paper, is_let_by):
        led = lines_back(made, store, turn, paper)
        self.assertIsNone(plain_lines(made, store, led[1])[1])
        spoken = {"unfold": made.rule(turn[1])[2][turn[2]][0] if turn[0] == "unfold" else None, "special": turn[1]}.get(turn[0])
        for fact, ahead, later in self.led_sums(behind, over, paper, made, store, led):
            self.assertTrue(ahead == later or fact[0] == spoken and within(made.scale, ahead, later))
        if is_let_by and turn[0] != "drop":
            self.assertIsNone(plain_judge(made, store, gone_on(made, store, led)))

    def test_there_and_back_again(self):
        # Forth and back, the trees are the same where a turn names them one to one.
        rng = random.Random(132)
        for made, store in many_cases(132, steady_scales() + [turning()], 80):
            facts = tuple(ruled_facts(made, store))
            lines = tuple(right_lines(rng, made, store, 12))
            for turn in some_turns(rng, made, store)[:4]:
                try:
                    led = lines_forth(made, store, turn, (facts, lines))
                except BadTurn:
                    continue
                if turn[0] in ("unfold", "fold", "order", "part", "special"):
                    self.assertEqual(lines_back(made, store, turn, led), (facts, lines))

    def test_rows_of_turns(self):
        rng = random.Random(133)
        for made, store in many_cases(133, steady_scales(), 40):
            facts = ruled_facts(made, store)
            met, over, paper = made, store, paper_of(made, store, facts)
            for _ in range(3):
                turns = [turn for turn in some_turns(rng, met, over) if turn[0] not in ("join", "drop")]
                for turn in turns[:1]:
                    try:
                        behind = turned(met, turn)
                    except BadTurn:
                        continue
                    if len(behind) < 14 and len(plain_uses(behind, store_over(behind.frame, store))) < 400:
                        paper = lines_forth(met, over, turn, paper)
                        met, over = behind, store_over(behind.frame, store)
                        paper = gone_on(met, over, paper)
            self.assertIsNone(judge_paper(met, over, paper))
            worths, sums = settled(made, store)[0], sums_of(met, over, paper)
            self.assertEqual({fact: sums[fact] for fact in worths}, worths)


class Errors(unittest.TestCase):
    RULES = "a: o(x) :- e(x y), x != y * 1\nb: o(x) :- e(x y), x != y * 2\nc: n() :- o(@b), p(x y), p(z w), x != y, z != w * 1"

    def test_bad_turns(self):
        made, store = case(self.RULES)
        for turn in ODD_VALUES + [("fold", "c", (1, 2)), ("unfold", "a", 0), ("order", "a", [0]), ["drop", ()]]:
            for call in (lines_forth, lines_back):
                with self.assertRaises(BadTurn):
                    call(made, store, turn, None)
        with self.assertRaises(BadTurn):
            lines_back(made, store, ("join", "a", "b"), None)
        # A join is led forth; only then the paper is looked at.
        with self.assertRaises(BadPaper):
            lines_forth(made, store, ("join", "a", "b"), None)

    def test_need_fit_comes_first(self):
        for made, store, error in misfits():
            for call in (lines_forth, lines_back):
                with self.assertRaises(error):
                    call(made, store, None, None)

    def test_unknown_thing(self):
        made, store = case(self.RULES)
        for call in (lines_forth, lines_back):
            # The copies name the thing; in the last one no rule does, but the store must have it all the same.
            for turn in (("special", "o", 0, "new"), ("special", "z", 0, "new")):
                with self.assertRaises(UnknownThing) as caught:
                    call(made, store, turn, None)
                self.assertEqual(caught.exception.name, "new")
            self.assertEqual(call(made, store, ("special", "z", 0, "a"), ((), ())), ((), ()))

    def test_a_thing_with_another_kind(self):
        frame = Frame(["k", "m"], [], [("o", ("k",)), ("z", ("m",))])
        made = read_program(frame, COUNTS, "")
        store = read_store(frame, COUNTS, "a of k")
        for call in (lines_forth, lines_back):
            with self.assertRaises(UnknownThing) as caught:
                call(made, store, ("special", "z", 0, "a"), None)
            self.assertEqual(caught.exception.name, "a")

    def test_papers(self):
        made, store = case(self.RULES)
        turn = ("order", "a", (0,))
        line = ("a", ("a", "b"), ())
        for call in (lines_forth, lines_back):
            for bad in bad_papers((o("a"), N), (line, None)):
                with self.assertRaises(BadPaper, msg=bad):
                    call(made, store, turn, bad)
            for paper, number in [((((o("a")),), (line, line)), 1), (((N,), (line,)), 0), (((o("a"),), (line, None)), 1), (((o("a"),), (None, line)), 0)]:
                with self.assertRaises(NoLine) as caught:
                    call(made, store, turn, paper)
                self.assertEqual(caught.exception.number, number)

    def test_papers_of_the_other_program(self):
        made, store = case(self.RULES)
        turn = ("part", "a", "x", "y")
        ahead, behind = ((o("a"),), (("a", ("a", "b"), ()),)), ((o("a"),), (("a.1", ("a", "b"), ()),))
        self.assertEqual(lines_forth(made, store, turn, ahead), behind)
        self.assertEqual(lines_back(made, store, turn, behind), ahead)
        for call, paper in ((lines_forth, behind), (lines_back, ahead)):
            with self.assertRaises(NoLine):
                call(made, store, turn, paper)
        # The new table's facts are facts of the turned program alone.
        turn = ("special", "o", 0, "b")
        paper = ((("n.0", ()),), ())
        self.assertEqual(lines_back(made, store, turn, paper), ((o("b"),), ()))
        with self.assertRaises(BadPaper):
            lines_forth(made, store, turn, paper)

    def test_any_scale(self):
        scale = TurnScale(3)
        made, store = case(self.RULES, scale=scale)
        paper = ((o("a"), o("b")), (("a", ("a", "b"), ()), ("b", ("b", "c"), ())))
        led = lines_forth(made, store, ("join", "a", "b"), paper)
        self.assertEqual(led, (paper[0], (("a", ("a", "b"), ()), ("a", ("b", "c"), ()))))
        self.assertEqual(line_facts(turned(made, ("join", "a", "b")), store, led[1]), [o("a"), o("b")])


if __name__ == "__main__":
    unittest.main()

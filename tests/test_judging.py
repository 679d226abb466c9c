import itertools
import random
import unittest

from tests.plain import plain_settled
from tests.plainlines import many_cases, plain_is_settled, plain_judge, plain_lines, plain_sums, plain_whole, right_lines
from tests.samples import ODD_VALUES, lone, road_program, road_store, steady_scales, turning
from tests.test_asking import misfits
from tests.test_lines import AB, BA, BB, COUNTS, FRAME, LINES, case
from worthhouse.errors import BadPaper, NoLine, NotSteady
from worthhouse.frames import Frame
from worthhouse.judging import judge_paper, sums_of
from worthhouse.papers import paper_of
from worthhouse.rounds import ruled_facts
from worthhouse.rules import Program
from worthhouse.scales import CostScale, CountScale, LevelScale, TurnScale
from worthhouse.stores import Store
from worthhouse.texts import read_program, read_store

P_AB, P_BB, P_BA, P_AA, N = ("p", ("a", "b")), ("p", ("b", "b")), ("p", ("b", "a")), ("p", ("a", "a")), ("n", ())


def bad_papers(facts, lines):
    """Values that have not the form of a paper, by a paper that has."""
    found = [odd for odd in ODD_VALUES if odd != ()]
    found += [(), (facts,), (facts, lines, ()), [facts, lines], (list(facts), lines), (facts, list(lines))]
    found += [(facts, None), (None, lines), (facts, "ab"), ("ab", lines), ({}, lines), (facts, {}), (facts + facts[:1], lines)]
    for odd in ODD_VALUES + [("e", ("a", "b")), ["n", ()], ("n",), ("p", ["a", "b"]), ("p", ("a",)), ("zz", ())]:
        found += [((odd,), lines), (facts + (odd,), lines)]
    return found


class Sums(unittest.TestCase):
    def test_told_in_full(self):
        program, store = case()
        facts = (N, P_BB, P_AB, P_BA)
        sums = sums_of(program, store, (facts, tuple(LINES)))
        self.assertEqual(list(sums.items()), [(N, "7"), (P_BB, "3"), (P_AB, "7"), (P_BA, "0")])
        self.assertEqual(sums_of(program, store, ((P_AB, P_BB), (AB, BB))), {P_AB: "2", P_BB: "3"})
        self.assertEqual(sums_of(program, store, ((), ())), {})
        self.assertEqual(sums_of(program, store, ((N,), ())), {N: "0"})

    def test_no_line(self):
        program, store = case()
        for facts, lines, number in [
            ((P_AB,), (AB, BB), 1),
            ((P_BB,), (AB, None), 0),
            ((P_BB,), (BB, None, AB), 1),
            ((), (AB,), 0),
            ((P_AB, P_BB), (AB, AB, BB), 1),
            ((P_AB, P_BB, N), tuple(LINES[:2]) + (LINES[4], LINES[3], LINES[2]), 3),
        ]:
            with self.assertRaises(NoLine) as caught:
                sums_of(program, store, (facts, lines))
            self.assertEqual(caught.exception.number, number)

    def test_bad_papers(self):
        program, store = case()
        for bad in bad_papers((P_AB, P_BB), (AB, None)):
            for call in (sums_of, judge_paper):
                with self.assertRaises(BadPaper, msg=bad):
                    call(program, store, bad)

    def test_in_any_scale(self):
        program, store = road_program(turning()), road_store(turning())
        fact = ("good", ("b",))
        self.assertEqual(sums_of(program, store, ((fact,), (("fixed", (), ()),))), {fact: "o"})

    def test_against_the_plain_way(self):
        rng = random.Random(9)
        for program, store in many_cases(76, steady_scales() + [turning()], 60):
            lines = tuple(right_lines(rng, program, store, 20))
            facts = ruled_facts(program, store)
            rng.shuffle(facts)
            for chosen in (facts, facts[: len(facts) // 2]):
                heads = [fact for fact, _, _ in plain_lines(program, store, lines)[0]]
                stray = [k for k, head in enumerate(heads) if head not in chosen]
                if stray:
                    with self.assertRaises(NoLine) as caught:
                        sums_of(program, store, (tuple(chosen), lines))
                    self.assertEqual(caught.exception.number, stray[0])
                else:
                    sums = sums_of(program, store, (tuple(chosen), lines))
                    self.assertEqual(sums, plain_sums(program, store, (chosen, lines)))
                    self.assertEqual(list(sums), chosen)


class Judged(unittest.TestCase):
    def small(self):
        frame = Frame([], [("t", ())], [("n", ()), ("m", ()), ("o", ())])
        rules = "a: n() :- m(), t() * 1\nb: m() * 2\nc: n() * 1\nd: o() :- n(), m() * 0"
        return read_program(frame, COUNTS, rules), read_store(frame, COUNTS, "t() = 2")

    def test_let_by(self):
        program, store = self.small()
        lines = (("b", (), ()), ("a", (), (0,)), ("c", (), ()))
        for facts in itertools.permutations([("n", ()), ("m", ())]):
            self.assertIsNone(judge_paper(program, store, (facts, lines)))
        self.assertIsNone(judge_paper(program, store, ((), ())))
        self.assertIsNone(judge_paper(program, store, ((("m", ()),), lines[:1])))
        # What a fact needs with nought needs no line, but must be among the facts.
        self.assertIsNone(judge_paper(program, store, ((("o", ()), ("n", ()), ("m", ())), lines)))

    def test_each_flaw(self):
        program, store = self.small()
        n, m, o = ("n", ()), ("m", ()), ("o", ())
        a, b, c = ("a", (), (0,)), ("b", (), ()), ("c", (), ())
        for paper, flaw in [
            (((n, m), (b, a, c, b)), ("line", 3)),
            (((n, m), (a, b)), ("line", 0)),
            (((n,), (c, None)), ("line", 1)),
            (((n,), (c,)), ("loose", m)),
            (((o,), ()), ("loose", n)),
            (((o, m), (b,)), ("loose", n)),
            (((o, n), ()), ("loose", m)),
            (((m,), (b, c, a)), ("stray", 1)),
            (((m,), (c, b)), ("stray", 0)),
            (((), (b,)), ("stray", 0)),
            (((n, m), (b, c)), ("open", n)),
            (((n, m), ()), ("open", n)),
            (((m, n), ()), ("open", m)),
            (((m, n), (b,)), ("open", n)),
            (((n, m, o), (b, a)), ("open", n)),
        ]:
            self.assertEqual(judge_paper(program, store, paper), flaw, paper)

    def test_which_word_comes_first(self):
        program, store = self.small()
        n, m, o = ("n", ()), ("m", ()), ("o", ())
        b, c = ("b", (), ()), ("c", (), ())
        self.assertEqual(judge_paper(program, store, ((o,), (b, None))), ("line", 1))
        self.assertEqual(judge_paper(program, store, ((o,), (b,))), ("loose", n))
        self.assertEqual(judge_paper(program, store, ((m,), (c,))), ("stray", 0))
        self.assertEqual(judge_paper(program, store, ((m,), ())), ("open", m))
        self.assertEqual(judge_paper(program, store, ((n, m), (c,))), ("open", m))

    def test_loose_goes_by_the_order_of_uses(self):
        frame = Frame([], [], [("n", ()), ("m", ()), ("o", ()), ("l", ())])
        program = read_program(frame, COUNTS, "a: m() :- n(), o(), l() * 1\nb: n() :- l() * 1")
        store = read_store(frame, COUNTS, "")
        n, m, o, l = [(name, ()) for name in "nmol"]
        self.assertEqual(judge_paper(program, store, ((n, m), ())), ("loose", o))
        self.assertEqual(judge_paper(program, store, ((m,), ())), ("loose", n))
        self.assertEqual(judge_paper(program, store, ((n,), ())), ("loose", l))

    def test_the_round_must_lie_within_the_sums(self):
        # As levels, a sum that is too great would be let by; but right lines cannot make one.
        scale = LevelScale(3)
        frame = Frame([], [], [("n", ()), ("m", ())])
        program = read_program(frame, scale, "a: n() :- n() * 3\nb: n() * 2\nc: n() * 1")
        store = read_store(frame, scale, "")
        paper = ((("n", ()),), (("c", (), ()), ("a", (), (0,))))
        self.assertEqual(judge_paper(program, store, paper), ("open", ("n", ())))
        self.assertIsNone(judge_paper(program, store, (paper[0], paper[1] + (("b", (), ()),))))

    def test_one_worth(self):
        frame = Frame([], [], [("n", ())])
        program = Program(frame, lone(), [("r", ("n", ()), (), (), "w")])
        store = Store(frame, lone(), [], [])
        self.assertIsNone(judge_paper(program, store, ((("n", ()),), ())))

    def test_against_the_plain_way(self):
        rng = random.Random(10)
        flaws = {}
        for program, store in many_cases(77, steady_scales(), 96):
            facts = ruled_facts(program, store)
            asked = rng.sample(facts, min(len(facts), rng.choice([1, 2, 30])))
            paper = paper_of(program, store, asked)
            for _ in range(6):
                changed = self.changed(rng, program, store, paper)
                found = judge_paper(program, store, changed)
                self.assertEqual(found, plain_judge(program, store, changed))
                flaws[found if found is None else found[0]] = True
                if found is None:
                    self.assertTrue(plain_is_settled(program, store, changed))
                    self.assertEqual(sorted(plain_whole(program, store, changed[0])), sorted(changed[0]))
        self.assertEqual(set(flaws), {None, "line", "loose", "stray", "open"})

    def changed(self, rng, program, store, paper):
        facts, lines = list(paper[0]), list(paper[1])
        way = rng.choice(["none", "fact", "fact", "line", "lines", "other", "odd"])
        rng.shuffle(facts)
        if way == "fact" and facts:
            facts.pop()
        if way == "line" and lines:
            lines.pop(rng.randrange(len(lines)))
        if way == "lines" and lines:
            del lines[rng.randrange(len(lines)) :]
        if way == "other":
            lines = right_lines(rng, program, store, 12)
        if way == "odd":
            lines.insert(rng.randrange(len(lines) + 1), rng.choice(ODD_VALUES))
        return (tuple(facts), tuple(lines))

    def test_let_by_are_just_the_settled_ones(self):
        rng = random.Random(11)
        for program, store in many_cases(78, [CountScale(2), CostScale(1), LevelScale(2)], 60):
            table, _ = plain_settled(program, store)
            lines = tuple(right_lines(rng, program, store, 10))
            facts = tuple(ruled_facts(program, store))
            sums = sums_of(program, store, (facts, lines))
            self.assertEqual(judge_paper(program, store, (facts, lines)) is None, sums == table)

    def test_not_steady(self):
        scale = TurnScale(2)
        program, store = road_program(scale), road_store(scale)
        with self.assertRaises(NotSteady):
            judge_paper(program, store, ((), (None,)))
        for bad in (None, (), ((), []), (("x",), ())):
            with self.assertRaises(BadPaper):
                judge_paper(program, store, bad)

    def test_misfits_come_first(self):
        for program, store, error in misfits():
            for call in (sums_of, judge_paper):
                with self.assertRaises(error):
                    call(program, store, None)

    def test_answer_belongs_to_the_caller(self):
        program, store = case()
        paper = ((P_AB,), (AB,))
        sums_of(program, store, paper).clear()
        self.assertEqual(sums_of(program, store, paper), {P_AB: "2"})

    def test_the_case_of_lines_by_hand(self):
        program, store = case()
        facts = (P_AB, P_BB, P_BA, P_AA)
        # e(b a) = 0 makes a use of worth nought, which needs no line.
        self.assertEqual(judge_paper(program, store, (facts, (AB, BB))), ("open", P_AB))
        more_ab = ("more", ("a", "b", "b"), (0, 1))
        more_bb = ("more", ("b", "b", "b"), (1, 1))
        self.assertIsNone(judge_paper(program, store, (facts, (AB, BB, more_ab, more_bb))))
        self.assertIsNone(judge_paper(program, store, (facts, (AB, BB, more_ab, more_bb, BA))))
        self.assertIs(FRAME, store.frame)


if __name__ == "__main__":
    unittest.main()

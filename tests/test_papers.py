import random
import unittest

from tests.plain import plain_settled
from tests.plainlines import (
    many_cases,
    plain_judge,
    plain_lines,
    plain_sums,
    plain_whole,
    right_lines,
    way_case,
    without,
)
from tests.samples import ODD_VALUES, families, lone, pairs, road_program, road_store, steady_scales
from tests.test_asking import misfits
from tests.test_judging import bad_papers
from tests.test_lines import AB, BB, LINES, case
from worthhouse.errors import BadPaper, NoLine, NotSteady, UnknownFact
from worthhouse.frames import Frame
from worthhouse.judging import judge_paper, sums_of
from worthhouse.lines import line_facts
from worthhouse.papers import cut, gone_on, joined, paper_of, thinned
from worthhouse.resting import height, steady
from worthhouse.rounds import ruled_facts, settled
from worthhouse.rules import Program
from worthhouse.scales import CountScale, LevelScale, TurnScale
from worthhouse.stores import Store
from worthhouse.texts import read_program, read_store

P_AB, P_BB, P_BA, P_AA, N = ("p", ("a", "b")), ("p", ("b", "b")), ("p", ("b", "a")), ("p", ("a", "a")), ("n", ())
COUNTS = CountScale(7)
BARE = Frame([], [], [("n", ()), ("m", ())])


def bare(rules, scale=COUNTS):
    return read_program(BARE, scale, rules), read_store(BARE, scale, "")


def some_papers(seed, many):
    """Programs, stores, and for each a paper that is let by."""
    rng = random.Random(seed)
    for program, store in many_cases(seed, steady_scales(), many):
        facts = ruled_facts(program, store)
        asked = rng.sample(facts, min(len(facts), rng.choice([1, 2, 40])))
        yield rng, program, store, asked, paper_of(program, store, asked)


def fat_paper(rng, program, store, paper):
    """The paper with further right lines for its facts, most of them needless."""
    lines = right_lines(rng, program, store, 18)
    kept, places = [], {}
    for k, (fact, _, _) in enumerate(plain_lines(program, store, lines)[0]):
        label, things, children = lines[k]
        if fact in paper[0] and all(child in places for child in children):
            places[k] = len(kept)
            kept.append((label, things, tuple(places[child] for child in children)))
    return gone_on(program, store, (paper[0], tuple(kept)))


class Made(unittest.TestCase):
    def test_told_in_full(self):
        program, store = bare("a: n() * 3\nb: n() :- n(), m() * 1\nc: m() * 1")
        facts, lines = paper_of(program, store, [("n", ())])
        self.assertEqual(facts, (("n", ()), ("m", ())))
        self.assertEqual(sums_of(program, store, (facts, lines)), {("n", ()): "7", ("m", ()): "1"})
        self.assertEqual(len(lines), 4)
        self.assertEqual(paper_of(program, store, [("m", ()), ("m", ())]), ((("m", ()),), (("c", (), ()),)))
        self.assertEqual(paper_of(program, store, []), ((), ()))
        self.assertEqual(paper_of(program, store, ()), ((), ()))

    def test_worths_of_nought_have_no_lines(self):
        program, store = bare("a: n() :- m() * 1\nb: m() * 0")
        self.assertEqual(paper_of(program, store, [("n", ())]), ((("n", ()), ("m", ())), ()))

    def test_one_worth(self):
        program = Program(BARE, lone(), [("r", ("n", ()), (), (), "w")])
        store = Store(BARE, lone(), [], [])
        self.assertEqual(paper_of(program, store, [("n", ())]), ((("n", ()),), ()))

    def test_papers_are_let_by_and_climb(self):
        for _, program, store, asked, paper in some_papers(79, 100):
            self.assertEqual(list(paper[0]), plain_whole(program, store, asked))
            self.assertIsNone(plain_judge(program, store, paper))
            table, _ = plain_settled(program, store)
            self.assertEqual(plain_sums(program, store, paper), {fact: table[fact] for fact in paper[0]})
            heads = line_facts(program, store, paper[1])
            self.assertTrue(all(heads.count(fact) <= height(program.scale) for fact in heads))

    def test_all_steady_families(self):
        rng = random.Random(12)
        for scale in [scale for scale in families() + pairs() if steady(scale)]:
            program, store = way_case(rng, scale)
            facts = ruled_facts(program, store)
            paper = paper_of(program, store, facts)
            self.assertIsNone(judge_paper(program, store, paper))
            self.assertEqual(sums_of(program, store, paper), settled(program, store)[0])
            thin = thinned(program, store, paper)
            self.assertIsNone(judge_paper(program, store, thin))
            heads = line_facts(program, store, paper[1])
            self.assertTrue(all(heads.count(fact) <= height(scale) for fact in heads))

    def test_errors(self):
        program, store = case()
        for odd in ODD_VALUES + [("e", ("a", "b")), ("p", ["a", "b"]), ["n", ()]]:
            with self.assertRaises(UnknownFact) as caught:
                paper_of(program, store, [P_AB, odd, "later"])
            self.assertIs(caught.exception.fact, odd)
        scale = TurnScale(5)
        with self.assertRaises(NotSteady):
            paper_of(road_program(scale), road_store(scale), [None])


class GoneOn(unittest.TestCase):
    def test_told_in_full(self):
        program, store = bare("a: n() * 3\nb: n() :- n(), m() * 1\nc: m() * 1\nd: n() * 0")
        begun = ((("n", ()),), (("d", (), ()), ("a", (), ())))
        facts, lines = gone_on(program, store, begun)
        self.assertEqual(facts, (("n", ()), ("m", ())))
        self.assertEqual(lines[:2], begun[1])
        self.assertIsNone(judge_paper(program, store, (facts, lines)))
        self.assertEqual(gone_on(program, store, ((), ())), ((), ()))

    def test_facts_are_put_in_the_order_of_ruled_facts(self):
        program, store = bare("a: n() * 3\nc: m() * 1")
        found = gone_on(program, store, ((("m", ()), ("n", ())), (("c", (), ()), ("a", (), ()))))
        self.assertEqual(found, ((("n", ()), ("m", ())), (("c", (), ()), ("a", (), ()))))

    def test_a_line_that_is_there_is_not_put_again(self):
        # Behind the line a it would climb once more, but it may not stand twice.
        program, store = bare("a: n() * 2")
        begun = ((("n", ()),), (("a", (), ()),))
        self.assertEqual(gone_on(program, store, begun), begun)

    def test_each_further_line_climbs(self):
        rng = random.Random(13)
        longer = 0
        for program, store in many_cases(80, steady_scales(), 90):
            lines = tuple(right_lines(rng, program, store, rng.choice([3, 12])))
            heads = [fact for fact, _, _ in plain_lines(program, store, lines)[0]]
            facts = list(dict.fromkeys(heads))
            rng.shuffle(facts)
            found = gone_on(program, store, (tuple(facts), lines))
            self.assertEqual(found[0], tuple(plain_whole(program, store, facts)))
            self.assertEqual(found[1][: len(lines)], lines)
            self.assertIsNone(plain_judge(program, store, found))
            sums = {fact: program.scale.nought for fact in found[0]}
            for k, (fact, worth, _) in enumerate(plain_lines(program, store, found[1])[0]):
                behind = program.scale.plus(sums[fact], worth)
                self.assertTrue(k < len(lines) or behind != sums[fact])
                sums[fact] = behind
            longer += len(found[1]) > len(lines)
        self.assertGreater(longer, 20)

    def test_errors(self):
        program, store = case()
        for bad in bad_papers((P_AB, P_BB), (AB, None)):
            with self.assertRaises(BadPaper, msg=bad):
                gone_on(program, store, bad)
        for paper, number in [(((P_AB,), (AB, BB)), 1), (((P_AB,), (AB, AB)), 1), (((P_AB,), (None, BB)), 0), (((), (AB,)), 0)]:
            with self.assertRaises(NoLine) as caught:
                gone_on(program, store, paper)
            self.assertEqual(caught.exception.number, number)
        scale = TurnScale(2)
        for bad in (None, ((), (None,)), ((), ())):
            with self.assertRaises(NotSteady):
                gone_on(road_program(scale), road_store(scale), bad)


class Thinned(unittest.TestCase):
    def test_told_in_full(self):
        scale = LevelScale(3)
        program, store = bare("a: n() * 1\nb: n() * 3\nc: n() :- n() * 3\nd: m() :- n() * 2", scale)
        facts = (("m", ()), ("n", ()))
        lines = (("a", (), ()), ("c", (), (0,)), ("d", (), (1,)), ("b", (), ()), ("d", (), (3,)))
        thin = thinned(program, store, (facts, lines))
        self.assertEqual(thin, (facts, (("b", (), ()), ("d", (), (0,)))))
        self.assertEqual(thinned(program, store, thin), thin)
        self.assertEqual(thinned(program, store, ((), ())), ((), ()))

    def test_lines_that_do_not_climb_may_stay_if_an_earlier_one_goes(self):
        program, store = bare("a: n() * 3\nb: n() * 7", CountScale(7))
        paper = ((("n", ()),), (("a", (), ()), ("b", (), ())))
        self.assertIsNone(judge_paper(program, store, paper))
        self.assertEqual(thinned(program, store, paper)[1], (("b", (), ()),))

    def test_no_line_can_go(self):
        thinner = 0
        for rng, program, store, _, made in some_papers(81, 70):
            for paper in (made, fat_paper(rng, program, store, made)):
                thin = thinned(program, store, paper)
                self.assertEqual(thin[0], paper[0])
                self.assertIsNone(plain_judge(program, store, thin))
                for k in range(len(thin[1])):
                    self.assertIsNotNone(judge_paper(program, store, (thin[0], without(thin[1], k))))
                # Some of the lines, in their order: the trees tell.
                trees = [tree for _, _, tree in plain_lines(program, store, paper[1])[0]]
                left = [tree for _, _, tree in plain_lines(program, store, thin[1])[0]]
                self.assertEqual([tree for tree in trees if tree in left], left)
                thinner += len(left) < len(trees)
        self.assertGreater(thinner, 20)

    def test_errors(self):
        check_errors_of_let_by(self, lambda program, store, paper: thinned(program, store, paper))


class Joined(unittest.TestCase):
    def test_told_in_full(self):
        program, store = bare("a: n() * 1\nb: n() :- m() * 1\nc: m() * 1\nd: m() :- m() * 0")
        n, m = ("n", ()), ("m", ())
        a, c = ("a", (), ()), ("c", (), ())
        first = ((m,), (c, ("d", (), (0,))))
        other = ((n, m), (a, c, ("b", (), (1,))))
        self.assertEqual(joined(program, store, first, other), ((m, n), (c, ("d", (), (0,)), a, ("b", (), (0,)))))
        self.assertEqual(joined(program, store, other, first), ((n, m), (a, c, ("b", (), (1,)), ("d", (), (1,)))))
        self.assertEqual(joined(program, store, ((), ()), other), other)
        self.assertEqual(joined(program, store, other, ((), ())), other)
        self.assertEqual(joined(program, store, other, other), other)

    def test_by_the_trees(self):
        for rng, program, store, asked, paper in some_papers(82, 60):
            facts = ruled_facts(program, store)
            other = paper_of(program, store, rng.sample(facts, min(2, len(facts))))
            other = fat_paper(rng, program, store, other)
            for first, second in ((paper, other), (other, paper)):
                found = joined(program, store, first, second)
                self.assertEqual(found[0], first[0] + tuple(fact for fact in second[0] if fact not in first[0]))
                trees = [[tree for _, _, tree in plain_lines(program, store, lines)[0]] for lines in (first[1], second[1])]
                expected = trees[0] + [tree for tree in trees[1] if tree not in trees[0]]
                self.assertEqual([tree for _, _, tree in plain_lines(program, store, found[1])[0]], expected)
                self.assertIsNone(plain_judge(program, store, found))
                self.assertEqual(found[1][: len(first[1])], first[1])

    def test_errors(self):
        program, store = case()
        good = paper_of(program, store, [N])
        check_errors_of_let_by(self, lambda program, store, paper: joined(program, store, paper, ((), ())))
        check_errors_of_let_by(self, lambda program, store, paper: joined(program, store, ((), ()), paper))
        with self.assertRaises(BadPaper):
            joined(program, store, good, (good[0], good[1][:-1]))
        with self.assertRaises(BadPaper):
            joined(program, store, None, good)


class Cut(unittest.TestCase):
    def test_told_in_full(self):
        program, store = bare("a: n() * 1\nb: n() :- m() * 1\nc: m() * 1\nd: m() :- m() * 0")
        n, m = ("n", ()), ("m", ())
        paper = ((m, n), (("a", (), ()), ("c", (), ()), ("b", (), (1,)), ("d", (), (1,))))
        self.assertEqual(cut(program, store, paper, [m]), ((m,), (("c", (), ()), ("d", (), (0,)))))
        self.assertEqual(cut(program, store, paper, (n,)), ((n, m), paper[1]))
        self.assertEqual(cut(program, store, paper, [m, n, m]), ((n, m), paper[1]))
        self.assertEqual(cut(program, store, paper, []), ((), ()))

    def test_by_the_trees(self):
        for rng, program, store, _, made in some_papers(83, 60):
            paper = fat_paper(rng, program, store, made)
            asked = [rng.choice(paper[0]) for _ in range(rng.choice([0, 1, 2])) if paper[0]]
            found = cut(program, store, paper, asked)
            whole = plain_whole(program, store, asked)
            self.assertEqual(found[0], tuple(whole))
            lines = plain_lines(program, store, paper[1])[0]
            expected = [entry for entry in lines if entry[0] in whole]
            self.assertEqual(plain_lines(program, store, found[1]), (expected, None))
            self.assertIsNone(plain_judge(program, store, found))

    def test_errors(self):
        program, store = case()
        paper = paper_of(program, store, [P_BB])
        check_errors_of_let_by(self, lambda program, store, paper: cut(program, store, paper, [None]))
        self.assertNotIn(N, paper[0])
        for odd in ODD_VALUES + [N, ("e", ("a", "b")), ("p", ["a", "b"]), ["n", ()]]:
            with self.assertRaises(UnknownFact) as caught:
                cut(program, store, paper, [P_BB, odd, None])
            self.assertIs(caught.exception.fact, odd)


def check_errors_of_let_by(test, call):
    """The errors that thinned, joined and cut have in common."""
    program, store = case()
    for bad in bad_papers((P_AB, P_BB), (AB, None)):
        with test.assertRaises(BadPaper, msg=bad):
            call(program, store, bad)
    good = paper_of(program, store, [P_AB])
    not_let_by = [
        (good[0], good[1] + (None,)),
        (good[0], good[1][:-1]),
        (good[0][1:], good[1]),
        (good[0], good[1] + good[1][:1]),
        (good[0], good[1] + tuple(LINES[4:])),
        ((N,), ()),
        ((), (AB,)),
    ]
    for bad in not_let_by:
        with test.assertRaises(BadPaper, msg=bad):
            call(program, store, bad)
    scale = TurnScale(2)
    for bad in (None, ((), (None,)), ((), ())):
        with test.assertRaises(NotSteady):
            call(road_program(scale), road_store(scale), bad)
    for program, store, error in misfits():
        with test.assertRaises(error):
            call(program, store, None)


class Misfits(unittest.TestCase):
    def test_they_come_first(self):
        for program, store, error in misfits():
            with self.assertRaises(error):
                paper_of(program, store, [None])
            with self.assertRaises(error):
                gone_on(program, store, None)

    def test_lists_that_are_passed_stay_as_they_are(self):
        program, store = case()
        asked = [P_AB, P_BB]
        paper = paper_of(program, store, asked)
        self.assertEqual(cut(program, store, paper, asked), cut(program, store, paper, tuple(asked)))
        self.assertEqual(asked, [P_AB, P_BB])
        asked.clear()
        self.assertEqual(paper_of(program, store, [P_AB, P_BB]), paper)


if __name__ == "__main__":
    unittest.main()

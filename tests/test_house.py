import random
import unittest

from tests.deedcases import no_deeds
from tests.housecases import check_same, some_houses
from tests.plain import plain_settled
from tests.plainlines import plain_judge, plain_sums, plain_whole
from tests.samples import ODD_VALUES, road_program, road_store, turning
from tests.test_asking import misfits
from worthhouse.errors import (
    BadDeed,
    BadName,
    Clash,
    NoRow,
    NoState,
    NothingDone,
    NotSteady,
    NotTold,
    TooMany,
    UnknownFact,
    UnknownLabel,
    UnknownName,
    UnknownThing,
    UnknownWorth,
)
from worthhouse.frames import Frame
from worthhouse.house import House
from worthhouse.judging import judge_paper
from worthhouse.scales import CostScale, CountScale
from worthhouse.texts import read_program, read_store

COUNTS = CountScale(7)
FRAME = Frame(["k"], [("e", ("k", "k")), ("t", ())], [("p", ("k", "k")), ("n", ()), ("o", ("k",))])
RULES = "z: n() :- o(x) * 1\na: o(x) :- e(x y) * 1"
STORE = "b of k\na of k\nt() = 2\ne(b a) = 1"
N, A, B = ("n", ()), ("o", ("a",)), ("o", ("b",))
TELL = ("tell", "t", (), "5")
EDGE = ("raise", "e", ("a", "a"), "3")
RULE = ("m", ("n", ()), (("t", ()),), (), "1")


def made(scale=COUNTS):
    return read_program(FRAME, scale, RULES), read_store(FRAME, scale, STORE)


def house(scale=COUNTS):
    return House(*made(scale))


def told(one):
    """All that a house tells."""
    branches = [(name, one.trail(name), one.mark(name)) for name in one.branches()]
    states = [(one.state(k)[0].rules(), one.state(k)[1].rows()) for k in range(len(one))]
    return states, one.log(), branches, one.here(), one.present(), one.watched(), one.kept()


class Made(unittest.TestCase):
    def test_a_new_house(self):
        one = house()
        program, store = made()
        self.assertEqual(len(one), 1)
        self.assertEqual((one.present(), one.log(), one.branches(), one.here()), (0, [], ["main"], "main"))
        self.assertEqual((one.trail("main"), one.mark("main"), one.watched(), one.kept()), ([0], 0, [], ((), ())))
        # State 0 is put in order; what was handed in stays as it is.
        self.assertEqual(one.state(0)[0].labels(), ["a", "z"])
        self.assertEqual(one.state(0)[1].rows(), [("e", ("b", "a"), "1"), ("t", (), "2")])
        self.assertEqual(one.state(0)[1].things(), [("b", "k"), ("a", "k")])
        self.assertEqual(one.now(), one.state(0))
        self.assertEqual((program, store), made())
        self.assertIsInstance(one.now(), tuple)

    def test_errors(self):
        for program, store, error in misfits():
            with self.assertRaises(error):
                House(program, store)
        program, store = road_program(turning()), road_store(turning())
        self.assertEqual(len(House(program, store)), 1)


class Led(unittest.TestCase):
    def test_deeds_undo_and_redo(self):
        one = house()
        self.assertEqual(one.do(TELL), 1)
        self.assertEqual(one.do(EDGE), 2)
        self.assertEqual(one.do(("unrule", "z")), 3)
        self.assertEqual(one.log(), [(0, TELL), (1, EDGE), (2, ("unrule", "z"))])
        self.assertEqual(one.now()[1].rows(), [("e", ("a", "a"), "3"), ("e", ("b", "a"), "1"), ("t", (), "5")])
        self.assertEqual(one.state(1)[1].rows(), [("e", ("b", "a"), "1"), ("t", (), "5")])
        self.assertEqual((one.undo(), one.undo()), (2, 1))
        self.assertEqual((one.trail("main"), one.mark("main"), len(one)), ([0, 1, 2, 3], 1, 4))
        self.assertEqual(one.redo(), 2)
        self.assertEqual((one.undo(), one.undo()), (1, 0))
        # A deed behind an undo: numbers fall out of the trail, the states stay.
        self.assertEqual(one.do(("rule", RULE)), 4)
        self.assertEqual((one.trail("main"), one.mark("main"), len(one)), ([0, 4], 1, 5))
        self.assertEqual(one.log()[3], (0, ("rule", RULE)))
        self.assertEqual(one.state(3)[0].labels(), ["a"])
        self.assertEqual(one.now()[0].labels(), ["a", "m", "z"])

    def test_both_ends_of_a_trail(self):
        one = house()
        for call in (one.undo, one.redo):
            with self.assertRaises(NothingDone):
                call()
        one.do(TELL)
        with self.assertRaises(NothingDone):
            one.redo()
        one.undo()
        with self.assertRaises(NothingDone):
            one.undo()
        self.assertEqual(one.present(), 0)

    def test_a_deed_that_changes_nothing_makes_a_state(self):
        one = house()
        deed = ("tell", "t", (), "2")
        self.assertEqual(one.do(deed), 1)
        self.assertEqual(one.state(1), one.state(0))
        self.assertEqual((len(one), one.trail("main"), one.log()), (2, [0, 1], [(0, deed)]))

    def test_branches(self):
        one = house()
        one.do(TELL)
        self.assertIsNone(one.branch("b"))
        self.assertEqual((one.branches(), one.here(), one.trail("b"), one.mark("b")), (["main", "b"], "main", [1], 0))
        one.do(EDGE)
        self.assertEqual(one.go("b"), 1)
        self.assertEqual((one.here(), one.present()), ("b", 1))
        with self.assertRaises(NothingDone):
            one.undo()
        self.assertEqual(one.do(("clear", "t", ())), 3)
        self.assertEqual((one.trail("b"), one.mark("b"), one.trail("main"), one.mark("main")), ([1, 3], 1, [0, 1, 2], 2))
        self.assertEqual(one.log()[2], (1, ("clear", "t", ())))
        self.assertEqual(one.go("main"), 2)
        self.assertEqual(one.go("main"), 2)

    def test_merging(self):
        one = house()
        one.branch("b")
        one.do(TELL)
        one.go("b")
        one.do(EDGE)
        one.do(("rule", RULE))
        self.assertEqual(one.merge("main"), 4)
        self.assertEqual(one.log()[3], (3, ("merge", 1)))
        self.assertEqual(one.now()[1].rows(), [("e", ("a", "a"), "3"), ("e", ("b", "a"), "1"), ("t", (), "5")])
        self.assertEqual(one.now()[0].labels(), ["a", "m", "z"])
        self.assertEqual((one.trail("b"), one.mark("b")), ([0, 2, 3, 4], 3))
        # A branch merged twice, an elder, oneself: nothing is done.
        for name in ("main", "b"):
            self.assertEqual(one.merge(name), 4)
        self.assertEqual(len(one), 5)
        # The present state is an elder of the other one: a new state all the same.
        one.go("main")
        self.assertEqual(one.merge("b"), 5)
        self.assertEqual(one.log()[4], (1, ("merge", 4)))
        self.assertEqual(one.state(5), one.state(4))
        self.assertEqual(one.undo(), 1)

    def test_merging_behind_an_undo(self):
        one = house()
        one.branch("b")
        one.do(TELL)
        one.do(EDGE)
        one.undo()
        one.go("b")
        one.do(("unrule", "a"))
        # It is the other branch's present state that counts.
        self.assertEqual(one.merge("main"), 4)
        self.assertEqual(one.log()[3], (3, ("merge", 1)))
        self.assertEqual(one.now()[1].rows(), [("e", ("b", "a"), "1"), ("t", (), "5")])

    def test_a_clash(self):
        one = house()
        one.branch("b")
        for deed in (TELL, EDGE, ("rule", RULE), ("unrule", "z"), ("clear", "e", ("b", "a"))):
            one.do(deed)
        one.go("b")
        for deed in (("tell", "t", (), "6"), ("tell", "e", ("a", "a"), "3"), ("rule", RULE[:4] + ("2",)), ("rule", ("z",) + RULE[1:]), ("tell", "e", ("b", "a"), "0")):
            one.do(deed)
        before = told(one)
        with self.assertRaises(Clash) as caught:
            one.merge("main")
        spots = (("row", "e", ("b", "a")), ("row", "t", ()), ("rule", "m"), ("rule", "z"))
        self.assertEqual(caught.exception.spots, spots)
        self.assertEqual(told(one), before)

    def test_against_a_plain_reckoning(self):
        rng = random.Random(191)
        many = {}
        for one, plain, words in some_houses(rng, 191, 70, 45):
            check_same(self, one, plain)
            for word in words:
                many[word] = many.get(word, 0) + 1
        for word in ("do", "undo", "redo", "branch", "go", "merge", "watch", "NothingDone", "BadName", "Clash", "not steady"):
            self.assertGreater(many.get(word, 0), 2, many)

    def test_the_bounds(self):
        one = house()
        deeds = [("tell", "t", (), str(k % 8)) for k in range(199)]
        for k, deed in enumerate(deeds, 1):
            self.assertEqual(one.do(deed), k)
        self.assertEqual(len(one), 200)
        one.branch("b")
        before = told(one)
        with self.assertRaises(TooMany):
            one.do(TELL)
        # The errors of edited come first.
        with self.assertRaises(BadDeed):
            one.do(None)
        with self.assertRaises(UnknownLabel):
            one.do(("unrule", "zz"))
        self.assertEqual(told(one), before)
        one.undo()
        with self.assertRaises(TooMany):
            one.do(TELL)
        # A merge that makes no state may be.
        self.assertEqual(one.redo(), 199)
        self.assertEqual(one.merge("b"), 199)
        for name in ("c", "d", "e", "f"):
            one.branch(name)
        self.assertEqual(len(one.branches()), 6)
        with self.assertRaises(TooMany):
            one.branch("g")
        # BadName comes first, for any value.
        for name in ("b", "G", "", None, [], 7):
            with self.assertRaises(BadName):
                one.branch(name)

    def test_too_many_for_a_merge(self):
        one = house()
        one.branch("b")
        one.do(("tell", "t", (), "1"))
        one.go("b")
        one.do(("tell", "t", (), "3"))
        for k in range(197):
            one.do(("tell", "e", ("a", "b"), str(k % 8)))
        self.assertEqual(len(one), 200)
        # The clash comes first.
        with self.assertRaises(Clash) as caught:
            one.merge("main")
        self.assertEqual(caught.exception.spots, (("row", "t", ()),))
        one.go("main")
        one.undo()
        with self.assertRaises(TooMany):
            one.merge("b")
        self.assertEqual((one.present(), len(one)), (0, 200))


class Wrong(unittest.TestCase):
    def test_deeds(self):
        one = house()
        one.watch([N])
        before = told(one)
        for odd in no_deeds([TELL, EDGE, ("clear", "t", ()), ("rule", RULE), ("unrule", "z")]) + [("merge", 0)]:
            if odd not in (TELL, EDGE):
                with self.assertRaises(BadDeed, msg=odd):
                    one.do(odd)
        for deed, error in [
            (("tell", "n", (), "1"), NotTold), (("tell", "t", ("a",), "1"), UnknownFact), (("tell", "t", (), "8"), UnknownWorth),
            (("clear", "e", ("a", "a")), NoRow), (("rule", ("m", ("o", ("@c",)), (), (), "1")), UnknownThing), (("unrule", "m"), UnknownLabel),
        ]:
            with self.assertRaises(error):
                one.do(deed)
        self.assertEqual(told(one), before)

    def test_numbers_of_states(self):
        one = house()
        one.do(TELL)
        for odd in [value for value in ODD_VALUES if value not in (0, 1) or isinstance(value, bool)] + [2, -1, "0", None, 1.5]:
            for call in (one.state, lambda number: one.worth_at(number, None)):
                with self.assertRaises(NoState) as caught:
                    call(odd)
                self.assertIs(caught.exception.number, odd)

    def test_names_of_branches(self):
        one = house()
        before = told(one)
        for odd in ODD_VALUES + ["b", "Main", "main "]:
            for call in (one.go, one.trail, one.mark, one.merge):
                with self.assertRaises(UnknownName) as caught:
                    call(odd)
                self.assertIs(caught.exception.name, odd)
        for odd in ODD_VALUES + ["main", "b.0", "Main", "thirteensigns"]:
            with self.assertRaises(BadName) as caught:
                one.branch(odd)
            self.assertIs(caught.exception.name, odd)
        self.assertEqual(told(one), before)

    def test_worths(self):
        one = house()
        for odd in ODD_VALUES + [("t", ()), ("o", ("c",)), ("o", ["a"]), ["n", ()]]:
            for call in (one.worth, lambda fact: one.worth_at(0, fact), lambda fact: one.watch([N, fact, "later"])):
                with self.assertRaises(UnknownFact) as caught:
                    call(odd)
                self.assertIs(caught.exception.fact, odd)
        self.assertEqual(one.watched(), [])

    def test_a_scale_that_is_not_steady(self):
        one = House(road_program(turning()), road_store(turning()))
        fact = ("any", ())
        for call in (lambda: one.worth(fact), lambda: one.worth_at(0, fact), lambda: one.watch([fact]), lambda: one.watch((fact,))):
            with self.assertRaises(NotSteady):
                call()
        for call in (lambda: one.worth(None), lambda: one.worth_at(0, None), lambda: one.watch([fact, None])):
            with self.assertRaises(UnknownFact):
                call()
        with self.assertRaises(NoState):
            one.worth_at(1, fact)
        self.assertIsNone(one.watch([]))
        self.assertEqual((one.watched(), one.kept()), ([], ((), ())))
        self.assertEqual(one.do(("unrule", "some")), 1)


class Worths(unittest.TestCase):
    def test_told_in_full(self):
        one = house()
        self.assertEqual((one.worth(N), one.worth(A), one.worth(B)), ("1", "0", "1"))
        one.do(EDGE)
        self.assertEqual((one.worth(N), one.worth(A)), ("4", "3"))
        one.undo()
        self.assertEqual((one.worth(N), one.worth_at(1, N), one.worth_at(0, N)), ("1", "4", "1"))

    def test_at_all_numbers_at_later_moments(self):
        rng = random.Random(192)
        for one, _, _ in some_houses(rng, 192, 40, 20):
            if one.watched() or one.here() != "main":
                earlier = {number: one.state(number) for number in range(len(one))}
                for number in earlier:
                    table, _ = plain_settled(*earlier[number])
                    for fact in list(table)[:3]:
                        try:
                            self.assertEqual(one.worth_at(number, fact), table[fact])
                        except NotSteady:
                            self.assertEqual(one.now()[0].scale, turning())
                one.branch("later") if len(one.branches()) < 6 else None
                self.assertEqual({number: one.state(number) for number in earlier}, earlier)


class Watched(unittest.TestCase):
    def test_told_in_full(self):
        one = house()
        self.assertIsNone(one.watch([B, N, B]))
        self.assertEqual(one.watched(), [B, N])
        facts, _ = one.kept()
        self.assertEqual(facts, (N, ("o", ("b",)), ("o", ("a",))))
        self.assertIsNone(judge_paper(*one.now(), one.kept()))
        one.watch((A,))
        self.assertEqual((one.watched(), one.kept()), ([A], ((A,), ())))
        one.do(EDGE)
        self.assertEqual(one.kept(), ((A,), (("a", ("a", "a"), ()),)))
        one.undo()
        self.assertEqual(one.kept(), ((A,), ()))
        one.watch([])
        self.assertEqual((one.watched(), one.kept()), ([], ((), ())))

    def test_kept_papers_are_let_by(self):
        rng = random.Random(193)
        watching = 0
        for one, _, _ in some_houses(rng, 193, 60, 25):
            paper = one.kept()
            if one.watched():
                watching += 1
                self.assertEqual(list(paper[0]), plain_whole(*one.now(), one.watched()))
                self.assertIsNone(plain_judge(*one.now(), paper))
                table, _ = plain_settled(*one.now())
                self.assertEqual(plain_sums(*one.now(), paper), {fact: table[fact] for fact in paper[0]})
                self.assertEqual([one.worth(fact) for fact in one.watched()], [table[fact] for fact in one.watched()])
            else:
                self.assertEqual(paper, ((), ()))
        self.assertGreater(watching, 15)


class Twins(unittest.TestCase):
    def test_a_twin_goes_its_own_way(self):
        one = house()
        one.do(TELL)
        one.branch("b")
        one.watch([N])
        other = one.twin()
        self.assertEqual(other, one)
        before = told(one)
        other.do(EDGE)
        other.go("b")
        other.branch("c")
        other.watch([])
        self.assertEqual(told(one), before)
        self.assertNotEqual(other, one)
        later = told(other)
        one.undo()
        one.do(("unrule", "z"))
        self.assertEqual(told(other), later)

    def test_equal(self):
        self.assertEqual(house(), house())
        self.assertNotEqual(house(), None)
        self.assertNotEqual(house(), House(*made(CountScale(6))))
        one = house()
        changes = [
            lambda other: other.do(TELL), lambda other: other.branch("b"), lambda other: other.watch([N]),
        ]
        for change in changes:
            other = house()
            change(other)
            self.assertNotEqual(other, one)
            again = house()
            change(again)
            self.assertEqual(other, again)

    def test_what_makes_houses_unlike(self):
        def led(*calls):
            one = house()
            for call, *values in calls:
                getattr(one, call)(*values)
            return one

        start = [("do", TELL), ("do", EDGE), ("branch", "b"), ("branch", "c")]
        every = [
            led(*start),
            led(*start, ("undo",)),
            led(*start, ("go", "b")),
            led(*start, ("watch", [N])),
            led(*start, ("watch", [A, N])),
            led(*start, ("watch", [N, A])),
            led(("do", TELL), ("do", EDGE), ("branch", "c"), ("branch", "b")),
            led(("do", TELL), ("branch", "b"), ("do", EDGE), ("branch", "c")),
            led(("do", EDGE), ("do", TELL), ("branch", "b"), ("branch", "c")),
            led(("do", TELL), ("do", ("tell", "e", ("a", "a"), "3")), ("branch", "b"), ("branch", "c")),
        ]
        for k, one in enumerate(every):
            for j, other in enumerate(every):
                self.assertEqual(one == other, k == j, (k, j))
        # A way there and back is the same, where nothing of it stays.
        self.assertEqual(led(*start, ("undo",), ("redo",)), every[0])

    def test_what_is_passed_and_returned_can_be_changed(self):
        one = house()
        one.do(TELL)
        facts = [N, A]
        one.watch(facts)
        facts.clear()
        before = told(one)
        for found in (one.log(), one.branches(), one.trail("main"), one.watched(), one.now()[1].rows(), one.state(0)[0].rules()):
            found.clear()
        self.assertEqual(told(one), before)

    def test_other_frames(self):
        scale = CostScale(3)
        program, store = road_program(scale), road_store(scale)
        one = House(program, store)
        one.do(("tell", "road", ("b", "c"), "1"))
        self.assertEqual((one.worth(("way", ("a", "c"))), one.worth_at(0, ("way", ("a", "c")))), ("1", "none"))


if __name__ == "__main__":
    unittest.main()

import random
import unittest

from tests.plainlines import many_cases, plain_lines, plain_tree_worth, plain_trees, right_lines
from tests.samples import ODD_VALUES, road_program, road_store, steady_scales, turning
from tests.test_asking import misfits
from worthhouse.errors import BadTree, NoLine, UnknownFact
from worthhouse.frames import Frame
from worthhouse.lines import fact_of, first_wrong, is_tree, line_facts, line_worths, tree_of, worth_of
from worthhouse.rounds import ruled_facts
from worthhouse.rules import Program, made_program
from worthhouse.scales import CountScale
from worthhouse.stores import Store
from worthhouse.texts import read_program, read_store

FRAME = Frame(["k", "m"], [("e", ("k", "k")), ("f", ("m",))], [("p", ("k", "k")), ("n", ()), ("g", ("m",))])
COUNTS = CountScale(7)
ROWS = "a of k\nb of k\nu of m\ne(a b) = 2\ne(b b) = 3\ne(b a) = 0\nf(u) = 2"
RULES = """one: p(x y) :- e(x y) * 1
more: p(x z) :- p(x y), e(y z), p(y z) * 2
some: n() :- p(x y), f(z), x != y * 1
bare: n() * 3"""


def case():
    return read_program(FRAME, COUNTS, RULES), read_store(FRAME, COUNTS, ROWS)


AB = ("one", ("a", "b"), ())
BB = ("one", ("b", "b"), ())
BA = ("one", ("b", "a"), ())
LINES = [AB, BB, ("more", ("a", "b", "b"), (0, 1)), ("some", ("a", "b", "u"), (2,)), ("bare", (), ())]
TREE = ("more", ("a", "b", "b"), (AB, BB))


class Trees(unittest.TestCase):
    def test_told_in_full(self):
        program, store = case()
        self.assertTrue(is_tree(program, store, ("p", ("a", "b")), AB))
        self.assertTrue(is_tree(program, store, ("p", ("a", "b")), TREE))
        self.assertFalse(is_tree(program, store, ("p", ("b", "b")), TREE))
        self.assertTrue(is_tree(program, store, ("n", ()), ("some", ("a", "b", "u"), (TREE,))))
        self.assertTrue(is_tree(program, store, ("n", ()), ("bare", (), ())))
        self.assertEqual(fact_of(program, store, TREE), ("p", ("a", "b")))
        self.assertEqual(worth_of(program, store, BB), "3")
        self.assertEqual(worth_of(program, store, BA), "0")
        self.assertEqual(worth_of(program, store, ("more", ("a", "a", "b"), (AB, BA))), "0")
        self.assertEqual(worth_of(program, store, TREE), "7")

    def test_values_that_are_no_trees(self):
        program, store = case()
        bad_ones = list(ODD_VALUES) + ["one", ("one",), ("one", ("a", "b")), (*AB, ()), list(AB), ("one", ("a", "b"), [])]
        bad_ones += [("zz", ("a", "b"), ()), (["one"], ("a", "b"), ()), (None, ("a", "b"), ()), ("one", ["a", "b"], ())]
        bad_ones += [("one", ("a",), ()), ("one", ("a", "b", "b"), ()), ("one", ("a", "u"), ()), ("one", ("a", "c"), ())]
        bad_ones += [("one", ("a", None), ()), ("one", ("a", ["b"]), ()), ("one", "ab", ()), ("one", ("a", "a"), ())]
        bad_ones += [("some", ("b", "b", "u"), (BB,)), ("some", ("a", "b", "a"), (AB,)), ("one", ("a", "b"), (AB,))]
        bad_ones += [TREE[:2] + ((AB,),), TREE[:2] + ((AB, BB, BB),), TREE[:2] + ((BB, AB),), TREE[:2] + ([AB, BB],)]
        bad_ones += [TREE[:2] + ((AB, 1),), TREE[:2] + ((AB, None),), TREE[:2] + ((AB, list(BB)),), TREE[:2] + (0, 1)]
        bad_ones += [("some", ("a", "b", "u"), (TREE[:2] + ((AB, BA),),))]
        for bad in bad_ones:
            for fact in ruled_facts(program, store):
                self.assertIs(is_tree(program, store, fact, bad), False, bad)
            for call in (fact_of, worth_of):
                with self.assertRaises(BadTree, msg=bad):
                    call(program, store, bad)

    def test_a_tree_is_one_for_its_fact_alone(self):
        program, store = case()
        for fact in ruled_facts(program, store):
            self.assertEqual(is_tree(program, store, fact, TREE), fact == ("p", ("a", "b")))

    def test_unknown_facts(self):
        program, store = case()
        for odd in ODD_VALUES + [("e", ("a", "b")), ("p", ["a", "b"]), ("p", ("a", "u")), ("p", ("a",)), ["n", ()]]:
            with self.assertRaises(UnknownFact) as caught:
                is_tree(program, store, odd, None)
            self.assertIs(caught.exception.fact, odd)

    def test_in_any_scale(self):
        program, store = road_program(turning()), road_store(turning())
        self.assertEqual(worth_of(program, store, ("fixed", (), ())), "o")
        self.assertTrue(is_tree(program, store, ("good", ("b",)), ("fixed", (), ())))

    def test_against_the_plain_trees(self):
        for program, store in many_cases(74, steady_scales() + [turning()], 60):
            facts = ruled_facts(program, store)
            for fact in facts[:6]:
                for tree in plain_trees(program, store, fact, 2)[:12]:
                    self.assertEqual(fact_of(program, store, tree), fact)
                    self.assertEqual(worth_of(program, store, tree), plain_tree_worth(program, store, tree))
                    for other in facts:
                        self.assertEqual(is_tree(program, store, other, tree), other == fact)

    def test_a_high_tree(self):
        frame = Frame([], [], [("n", ())])
        program = Program(frame, COUNTS, [("r", ("n", ()), (("n", ()),), (), "1"), ("s", ("n", ()), (), (), "3")])
        store = Store(frame, COUNTS, [], [])
        lines = [("s", (), ())] + [("r", (), (k,)) for k in range(299)]
        tree = tree_of(program, store, lines, 299)
        self.assertEqual((fact_of(program, store, tree), worth_of(program, store, tree)), (("n", ()), "3"))
        self.assertIs(is_tree(program, store, ("n", ()), tree), True)
        self.assertEqual(line_worths(program, store, lines), ["3"] * 300)

    def test_made_names(self):
        frame = Frame([], [], [("n", ())])
        program = made_program(frame, COUNTS, [("w.0", ("n", ()), (), (), "2")])
        store = Store(frame, COUNTS, [], [])
        self.assertEqual(worth_of(program, store, ("w.0", (), ())), "2")
        self.assertEqual(line_facts(program, store, [("w.0", (), ())]), [("n", ())])


class Lines(unittest.TestCase):
    def test_told_in_full(self):
        program, store = case()
        for lines in (LINES, tuple(LINES)):
            self.assertIsNone(first_wrong(program, store, lines))
            self.assertEqual(
                line_facts(program, store, lines),
                [("p", ("a", "b")), ("p", ("b", "b")), ("p", ("a", "b")), ("n", ()), ("n", ())],
            )
            self.assertEqual(line_worths(program, store, lines), ["2", "3", "7", "7", "3"])
            self.assertEqual(tree_of(program, store, lines, 2), TREE)
            self.assertEqual(tree_of(program, store, lines, 3), ("some", ("a", "b", "u"), (TREE,)))
            self.assertEqual(tree_of(program, store, lines, 4), ("bare", (), ()))
        for call in (first_wrong, line_facts, line_worths):
            self.assertFalse(call(program, store, []))
            self.assertFalse(call(program, store, ()))

    def test_lines_that_are_not_right(self):
        program, store = case()
        more = ("more", ("a", "b", "b"))
        bad_ones = list(ODD_VALUES) + [list(AB), AB[:2], (*AB, ()), ("one", ("a", "a"), ()), ("zz", (), ()), ("one", ["a", "b"], ())]
        bad_ones += [("one", ("a", "b"), []), ("one", ("a", "b"), (0,)), ("one", ("a", "b"), None), (0, ("a", "b"), ())]
        bad_ones += [(*more, children) for children in ((), (0,), (0, 1, 1), [0, 1], (1, 0), (0, 2), (0, -1), (-2, -1))]
        bad_ones += [(*more, children) for children in ((False, True), (0, True), (False, 1), ("0", "1"), (0, None), (0, 3))]
        # A line that is an earlier one.
        bad_ones += [AB, BB]
        for bad in bad_ones:
            lines = [AB, BB, bad, AB, None]
            self.assertEqual(first_wrong(program, store, lines), 2, bad)
            self.assertEqual(first_wrong(program, store, tuple(lines)), 2, bad)
            for call in (line_facts, line_worths):
                with self.assertRaises(NoLine) as caught:
                    call(program, store, lines)
                self.assertEqual(caught.exception.number, 2)
            for k in (0, 1, 2, 99, -1):
                with self.assertRaises(NoLine) as caught:
                    tree_of(program, store, lines, k)
                self.assertEqual(caught.exception.number, 2)
        self.assertIsNone(first_wrong(program, store, [AB, BB, (*more, (0, 1))]))

    def test_a_child_that_is_the_line_itself_or_a_later_one(self):
        program, store = case()
        twice = ("more", ("b", "b", "b"), (1, 0))
        self.assertEqual(first_wrong(program, store, [BB, twice]), 1)
        self.assertEqual(first_wrong(program, store, [twice, BB]), 0)
        self.assertIsNone(first_wrong(program, store, [BB, ("more", ("b", "b", "b"), (0, 0)), twice]))

    def test_no_such_line(self):
        program, store = case()
        for k in (5, 6, 100, -1, -5):
            with self.assertRaises(NoLine) as caught:
                tree_of(program, store, LINES, k)
            self.assertEqual(caught.exception.number, k)
        with self.assertRaises(NoLine):
            tree_of(program, store, [], 0)

    def test_against_the_plain_way(self):
        rng = random.Random(8)
        for program, store in many_cases(75, steady_scales() + [turning()], 90):
            lines = right_lines(rng, program, store, 25)
            found, wrong = plain_lines(program, store, lines)
            self.assertIsNone(wrong)
            self.assertIsNone(first_wrong(program, store, lines))
            self.assertEqual(line_facts(program, store, lines), [fact for fact, _, _ in found])
            self.assertEqual(line_worths(program, store, tuple(lines)), [worth for _, worth, _ in found])
            for k in range(len(lines)):
                tree = tree_of(program, store, lines, k)
                self.assertEqual(tree, found[k][2])
                self.assertEqual((fact_of(program, store, tree), worth_of(program, store, tree)), found[k][:2])
            # Unlike right lines stand for unlike trees.
            self.assertEqual(len({tree for _, _, tree in found}), len(lines))
            for _ in range(8):
                broken = self.changed(rng, lines)
                self.assertEqual(first_wrong(program, store, broken), plain_lines(program, store, broken)[1], broken)

    def changed(self, rng, lines):
        """The lines with one thing changed, put in, taken out or exchanged."""
        lines = list(lines)
        if not lines:
            return [None]
        k = rng.randrange(len(lines))
        label, things, children = lines[k]
        ways = ["drop", "twice", "swap", "odd", "label", "children"]
        way = rng.choice(ways)
        if way == "drop":
            del lines[k]
        elif way == "twice":
            lines.insert(rng.randrange(len(lines) + 1), lines[k])
        elif way == "swap":
            other = rng.randrange(len(lines))
            lines[k], lines[other] = lines[other], lines[k]
        elif way == "odd":
            lines[k] = rng.choice(ODD_VALUES)
        elif way == "label":
            lines[k] = (rng.choice(lines)[0], things, children)
        else:
            lines[k] = (label, things, tuple(child + rng.choice([-1, 0, 1]) for child in children) or (k,))
        return lines

    def test_answers_belong_to_the_caller(self):
        program, store = case()
        lines = list(LINES)
        line_facts(program, store, lines).clear()
        line_worths(program, store, lines).clear()
        self.assertEqual(lines, LINES)
        self.assertEqual(len(line_facts(program, store, lines)), 5)

    def test_misfits_come_first(self):
        for program, store, error in misfits():
            for call in (fact_of, worth_of, first_wrong, line_facts, line_worths):
                with self.assertRaises(error):
                    call(program, store, [None])
            with self.assertRaises(error):
                is_tree(program, store, None, None)
            with self.assertRaises(error):
                tree_of(program, store, [None], 7)


if __name__ == "__main__":
    unittest.main()

import unittest

from tests.plain import plain_tables
from tests.plainlines import many_cases, plain_tree_worth, plain_trees
from tests.samples import ODD_VALUES, road_program, road_store, steady_scales, turning
from tests.test_asking import misfits
from tests.test_lines import AB, BB, COUNTS, TREE, case
from worthhouse.counting import grounds, tree_count
from worthhouse.errors import TooMany, UnknownFact
from worthhouse.frames import Frame
from worthhouse.lines import fact_of, is_tree
from worthhouse.rounds import ruled_facts
from worthhouse.rules import Program
from worthhouse.scales import TurnScale
from worthhouse.stores import Store
from worthhouse.texts import read_program, read_store

BARE = Frame([], [], [("n", ()), ("m", ()), ("o", ())])
N, M, O = ("n", ()), ("m", ()), ("o", ())


def bare(rules):
    return read_program(BARE, COUNTS, rules), read_store(BARE, COUNTS, "")


class Grounds(unittest.TestCase):
    def test_told_in_full(self):
        program, store = case()
        fact = ("p", ("a", "b"))
        self.assertEqual(grounds(program, store, fact, 0), [])
        self.assertEqual(grounds(program, store, fact, 1), [AB])
        self.assertCountEqual(grounds(program, store, fact, 2), [AB, TREE])
        self.assertIn(("more", ("a", "b", "b"), (TREE, BB)), grounds(program, store, fact, 3))
        self.assertEqual(grounds(program, store, ("p", ("a", "a")), 1), [])

    def test_an_atom_twice_has_two_trees(self):
        program, store = bare("a: n() :- m(), m() * 1\nb: m() * 1\nc: m() * 1")
        b, c = ("b", (), ()), ("c", (), ())
        expected = [("a", (), (x, y)) for x in (b, c) for y in (b, c)]
        self.assertCountEqual(grounds(program, store, N, 2), expected)
        self.assertEqual(tree_count(program, store, N, 2), 4)

    def test_each_once_against_the_plain_way(self):
        told = 0
        for program, store in many_cases(84, steady_scales() + [turning()], 60):
            table = plain_tables(program, store, 3)
            for fact in ruled_facts(program, store)[:8]:
                for depth in range(4):
                    many = tree_count(program, store, fact, depth)
                    if many > 60:
                        continue
                    found = grounds(program, store, fact, depth)
                    expected = plain_trees(program, store, fact, depth)
                    self.assertEqual(len(found), many)
                    self.assertEqual(sorted(found), sorted(expected))
                    self.assertTrue(all(is_tree(program, store, fact, tree) for tree in found))
                    worths = [plain_tree_worth(program, store, tree) for tree in found]
                    self.assertEqual(program.scale.total(worths), table[depth][fact])
                    told += many > 3
        self.assertGreater(told, 20)

    def test_more_than_two_hundred(self):
        # Behind depth d there are 1, 1 + 1, 1 + 4, 1 + 25, 1 + 676 trees.
        program, store = bare("a: n() * 1\nb: n() :- n(), n() * 1")
        self.assertEqual([tree_count(program, store, N, depth) for depth in range(7)], [0, 1, 2, 5, 26, 677, 458330])
        self.assertEqual(len(grounds(program, store, N, 4)), 26)
        for depth in (5, 6):
            with self.assertRaises(TooMany):
                grounds(program, store, N, depth)

    def test_just_two_hundred(self):
        rules = [(f"r{k}", M, (), (), "1") for k in range(10)] + [(f"s{k}", N, (), (), "1") for k in range(20)]
        program = Program(BARE, COUNTS, rules + [("t", O, (M, N), (), "1")])
        store = Store(BARE, COUNTS, [], [])
        self.assertEqual(len(set(grounds(program, store, O, 2))), 200)
        program = Program(BARE, COUNTS, rules + [("t", O, (M, N), (), "1"), ("u", O, (), (), "1")])
        with self.assertRaises(TooMany):
            grounds(program, store, O, 2)
        self.assertEqual(grounds(program, store, O, 1), [("u", (), ())])

    def test_many_trees_beside_none(self):
        # n has very many trees, but o has none, so m has none by it.
        program, store = bare("a: n() * 1\nb: n() :- n(), n() * 1\nc: m() :- n(), o() * 1\nd: m() * 1\ne: o() :- o() * 1")
        self.assertEqual(grounds(program, store, M, 6), [("d", (), ())])
        self.assertEqual(tree_count(program, store, M, 6), 1)

    def test_very_large_counts(self):
        program, store = bare("\n".join(f"a{k}: n() :- n(), n(), n(), n(), n() * 1" for k in range(9)) + "\nb: n() * 1")
        many = 0
        for depth in range(7):
            self.assertEqual(tree_count(program, store, N, depth), many)
            many = 1 + 9 * many**5

    def test_a_fact_without_uses(self):
        program, store = case()
        for depth in range(7):
            self.assertEqual(grounds(program, store, ("g", ("u",)), depth), [])
            self.assertEqual(tree_count(program, store, ("g", ("u",)), depth), 0)

    def test_in_any_scale(self):
        scale = TurnScale(3)
        self.assertGreater(tree_count(road_program(scale), road_store(scale), ("any", ()), 6), 3)

    def test_unknown_facts(self):
        program, store = bare("a: n() * 1\nb: n() :- n(), n() * 1")
        for call in (grounds, tree_count):
            for odd in ODD_VALUES + ["n", ["n", ()], ("n", []), ("zz", ()), ("n", ("a",))]:
                with self.assertRaises(UnknownFact) as caught:
                    call(program, store, odd, 6)
                self.assertIs(caught.exception.fact, odd)
            for program_, store_, error in misfits():
                with self.assertRaises(error):
                    call(program_, store_, None, 1)

    def test_answer_belongs_to_the_caller(self):
        program, store = case()
        fact = ("p", ("a", "b"))
        grounds(program, store, fact, 2).clear()
        self.assertEqual(len(grounds(program, store, fact, 2)), 2)
        self.assertEqual(fact_of(program, store, grounds(program, store, fact, 1)[0]), fact)


if __name__ == "__main__":
    unittest.main()

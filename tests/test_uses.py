import unittest

from tests.plain import plain_uses, plain_worth
from tests.samples import RandomCases, road_frame, road_program, road_store, small_scales, turning, yes_no
from worthhouse.errors import MixedFrames, MixedScales, UnknownThing
from worthhouse.frames import Frame, made_frame
from worthhouse.rules import Program, made_program
from worthhouse.scales import CostScale, CountScale, LevelScale
from worthhouse.stores import Store
from worthhouse.texts import read_program, read_store
from worthhouse.uses import use_worth, uses_of

COUNTS = CountScale(7)
STORE = """b of town
red of sort
a of town
blue of sort
road(a b) = 2
road(b b) = 0
is(a red) = 3
is(b blue) = 1
open() = 2"""


def uses(text, store=STORE, scale=COUNTS):
    return uses_of(read_program(road_frame(), scale, text), read_store(road_frame(), scale, store))


class Uses(unittest.TestCase):
    def test_told_in_full(self):
        self.assertEqual(
            uses("r: way(x y) :- road(x y) * 1\ns: any() :- good(x), open() * 1\nt: any() * 1"),
            [
                ("r", ("b", "b"), ("way", ("b", "b")), (("road", ("b", "b")),), ()),
                ("r", ("a", "b"), ("way", ("a", "b")), (("road", ("a", "b")),), ()),
                ("s", ("b",), ("any", ()), (("open", ()),), (("good", ("b",)),)),
                ("s", ("a",), ("any", ()), (("open", ()),), (("good", ("a",)),)),
                ("t", (), ("any", ()), (), ()),
            ],
        )

    def test_order_is_that_of_the_variables_of_the_rule(self):
        # y stands first in the rule, though the told atoms name x first.
        found = uses("r: way(y x) :- is(x s), good(y) * 1")
        self.assertEqual(
            [use[1] for use in found],
            [("b", "b", "blue"), ("b", "a", "red"), ("a", "b", "blue"), ("a", "a", "red")],
        )

    def test_parts_stand_in_the_order_of_the_body(self):
        found = uses("r: any() :- way(x y), open(), good(y), road(x y), open(), way(x y) * 1")
        self.assertEqual(
            found[0],
            (
                "r",
                ("b", "b"),
                ("any", ()),
                (("open", ()), ("road", ("b", "b")), ("open", ())),
                (("way", ("b", "b")), ("good", ("b",)), ("way", ("b", "b"))),
            ),
        )

    def test_a_row_of_nought_is_a_row(self):
        self.assertEqual(len(uses("r: any() :- road(b b) * 1".replace("road(b b)", "road(@b @b)"))), 1)
        self.assertEqual(len(uses("r: any() :- road(@b @a) * 1")), 0)

    def test_tests(self):
        self.assertEqual([use[1] for use in uses("r: any() :- way(x y), x = y * 1")], [("b", "b"), ("a", "a")])
        self.assertEqual([use[1] for use in uses("r: any() :- way(x y), x != y * 1")], [("b", "a"), ("a", "b")])
        self.assertEqual([use[1] for use in uses("r: any() :- way(x y), @a = x, y != @b * 1")], [("a", "a")])
        self.assertEqual(len(uses("r: any() :- good(x), x = x * 1")), 2)
        self.assertEqual(uses("r: any() :- good(x), x != x * 1"), [])
        self.assertEqual([use[1] for use in uses("r: any() :- road(x y), x != y * 1")], [("a", "b")])

    def test_things_at_places(self):
        self.assertEqual(
            uses("r: good(@a) :- road(@a y) * 1"), [("r", ("b",), ("good", ("a",)), (("road", ("a", "b")),), ())]
        )
        self.assertEqual(uses("r: good(@a) * 1"), [("r", (), ("good", ("a",)), (), ())])
        self.assertEqual(len(uses("r: any() :- way(@a @b) * 1")), 1)

    def test_one_variable_twice_in_an_atom(self):
        self.assertEqual([use[1] for use in uses("r: any() :- road(x x) * 1")], [("b",)])
        self.assertEqual([use[1] for use in uses("r: any() :- way(x x) * 1")], [("b",), ("a",)])

    def test_kinds_without_things(self):
        store = "a of town\nopen() = 1"
        self.assertEqual(uses("r: any() :- swap(x s x), open() * 1", store), [])
        self.assertEqual(uses("r: any() :- is(x s) * 1", store), [])
        self.assertEqual(uses("r: any() :- good(x) * 1", "red of sort"), [])
        self.assertEqual(len(uses("r: any() :- open() * 1", "open() = 1")), 1)
        self.assertEqual(uses("r: any() :- open() * 1", ""), [])

    def test_two_rules_alike_but_for_their_labels(self):
        found = uses("r: any() :- open() * 1\ns: any() :- open() * 1")
        self.assertEqual([use[0] for use in found], ["r", "s"])

    def test_against_all_fillings(self):
        cases = RandomCases(41)
        scales = small_scales()
        many = 0
        for k in range(300):
            program, store = cases.case(scales[k % len(scales)])
            found = uses_of(program, store)
            self.assertEqual(found, plain_uses(program, store))
            many += len(found)
            for use in found[:20]:
                self.assertEqual(use_worth(program, store, use), plain_worth(program, store, use))
        self.assertGreater(many, 1000)

    def test_many_variables_few_uses(self):
        things = "\n".join(name + " of k" for name in "abcdefgh")
        frame = Frame(["k"], [("t", ("k",)), ("u", ("k",))], [("p", ()), ("q", ("k", "k"))])
        program = read_program(frame, yes_no(), "r: p() :- q(a b), q(c d), q(e f), t(g), u(g) * yes")
        store = read_store(frame, yes_no(), things + "\nt(a) = yes\nu(b) = yes")
        self.assertEqual(uses_of(program, store), [])

    def test_made_names_and_many_places(self):
        frame = made_frame(["k"], [("t.0", ("k",) * 4)], [("q.0", ("k",))])
        store = Store(frame, COUNTS, [("a", "k"), ("b", "k")], [("t.0", ("a", "b", "a", "b"), "3")])
        program = made_program(frame, COUNTS, [("w.0", ("q.0", ("y",)), (("t.0", ("x", "y", "x", "z")),), (), "2")])
        found = uses_of(program, store)
        self.assertEqual(found, [("w.0", ("b", "a", "b"), ("q.0", ("b",)), (("t.0", ("a", "b", "a", "b")),), ())])
        self.assertEqual(use_worth(program, store, found[0]), "6")

    def test_answer_belongs_to_the_caller(self):
        program, store = road_program(), road_store()
        found = uses_of(program, store)
        found.clear()
        self.assertEqual(uses_of(program, store), plain_uses(program, store))


class Worths(unittest.TestCase):
    def worth(self, text, scale=COUNTS, store=STORE):
        program = read_program(road_frame(), scale, text)
        store = read_store(road_frame(), scale, store)
        return [use_worth(program, store, use) for use in uses_of(program, store)]

    def test_products(self):
        self.assertEqual(self.worth("r: any() * 3"), ["3"])
        self.assertEqual(self.worth("r: any() :- open() * 3"), ["6"])
        self.assertEqual(self.worth("r: any() :- good(x), road(@a @b) * 1"), ["2", "2"])
        self.assertEqual(self.worth("r: any() :- road(@b @b) * 5"), ["0"])

    def test_an_atom_twice_counts_twice(self):
        self.assertEqual(self.worth("r: any() :- open(), open() * 1"), ["4"])
        self.assertEqual(self.worth("r: any() :- open(), road(@a @b) * 1"), ["4"])

    def test_other_scales(self):
        self.assertEqual(self.worth("r: any() :- open(), is(@a @red) * 1", CostScale(6)), ["6"])
        self.assertEqual(self.worth("r: any() :- open(), is(@a @red) * 7", LevelScale(7)), ["2"])


class Errors(unittest.TestCase):
    def test_need_fit(self):
        scale = turning()
        program = road_program(scale)
        store = road_store(scale)
        use = uses_of(program, store)[0]
        frame = Frame(["sort", "town"], road_frame().told(), road_frame().ruled())
        for other, error in [
            (Store(frame, yes_no(), [], []), MixedFrames),
            (Store(road_frame(), yes_no(), [], []), MixedScales),
            (Store(road_frame(), scale, [("red", "town")], []), UnknownThing),
        ]:
            with self.assertRaises(error):
                uses_of(program, other)
            with self.assertRaises(error):
                use_worth(program, other, use)

    def test_no_thing(self):
        with self.assertRaises(UnknownThing) as caught:
            uses_of(Program(road_frame(), COUNTS, [("r", ("good", ("@a",)), (), (), "1")]), Store(road_frame(), COUNTS, [], []))
        self.assertEqual(caught.exception.name, "a")


if __name__ == "__main__":
    unittest.main()

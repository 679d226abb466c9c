import unittest

from tests.samples import ODD_VALUES, road_frame, road_store, yes_no
from worthhouse.errors import (
    BadName,
    BadRow,
    BadThing,
    NoRow,
    NotTold,
    TwiceTold,
    UnknownName,
    UnknownThing,
)
from worthhouse.frames import Frame, made_frame
from worthhouse.scales import CostScale, CountScale, LevelScale, PairScale
from worthhouse.stores import Store, is_fact

THINGS = [("a", "town"), ("red", "sort"), ("b", "town")]


def store_of(things, rows, frame=None, scale=None):
    return Store(road_frame() if frame is None else frame, CountScale(2) if scale is None else scale, things, rows)


class Stores(unittest.TestCase):
    def test_ordinary(self):
        store = road_store(CostScale(6))
        self.assertTrue(store.frame == road_frame())
        self.assertTrue(store.scale == CostScale(6))
        self.assertEqual(
            store.things(), [("a", "town"), ("red", "sort"), ("b", "town"), ("c", "town"), ("blue", "sort")]
        )
        self.assertEqual(store.things_of("town"), ["a", "b", "c"])
        self.assertEqual(store.things_of("sort"), ["red", "blue"])
        self.assertEqual(store.kind_of("blue"), "sort")
        self.assertEqual(len(store), 7)
        self.assertEqual(store.rows()[0], ("road", ("a", "b"), "0"))
        self.assertEqual(store.rows()[5], ("open", (), "0"))
        self.assertEqual(store.worth("road", ("b", "c")), "none")
        self.assertEqual(store.worth("open", ()), "0")
        self.assertIs(store.has("road", ("a", "b")), True)
        self.assertIs(store.has("road", ("b", "a")), False)

    def test_a_row_of_nought_is_a_row(self):
        store = store_of(THINGS, [("open", (), "0")])
        self.assertIs(store.has("open", ()), True)
        self.assertEqual(store.worth("open", ()), "0")
        self.assertEqual(len(store), 1)
        self.assertFalse(store == store_of(THINGS, []))

    def test_empty(self):
        store = store_of([], [])
        self.assertEqual((store.things(), store.rows(), len(store)), ([], [], 0))
        self.assertEqual(store.things_of("town"), [])

    def test_kinds_without_things_and_tables_without_places(self):
        store = store_of([("a", "town")], [])
        self.assertEqual(store.facts_of("is"), [])
        self.assertEqual(store.facts_of("deal"), [])
        self.assertEqual(store.facts_of("open"), [("open", ())])
        self.assertEqual(store.facts_of("any"), [("any", ())])

    def test_facts_in_order(self):
        store = store_of([("b", "town"), ("red", "sort"), ("a", "town"), ("blue", "sort")], [])
        self.assertEqual(
            store.facts_of("road"), [("road", pair) for pair in [("b", "b"), ("b", "a"), ("a", "b"), ("a", "a")]]
        )
        self.assertEqual(
            store.facts_of("swap")[:3],
            [("swap", ("b", "red", "b")), ("swap", ("b", "red", "a")), ("swap", ("b", "blue", "b"))],
        )
        self.assertEqual(len(store.facts_of("swap")), 8)
        self.assertEqual(store.facts_of("good"), [("good", ("b",)), ("good", ("a",))])

    def test_facts_with_many_places(self):
        frame = made_frame(["k"], [], [("q.0", ("k",) * 5)])
        store = store_of([("a", "k"), ("b", "k")], [], frame=frame)
        facts = store.facts_of("q.0")
        self.assertEqual(len(facts), 32)
        self.assertEqual(facts[1], ("q.0", ("a", "a", "a", "a", "b")))

    def test_unknown(self):
        store = road_store()
        for odd in ["way", "a", "zz"] + ODD_VALUES:
            with self.assertRaises(UnknownName) as caught:
                store.things_of(odd)
            self.assertIs(caught.exception.name, odd)
        for odd in ["town", "zz"] + ODD_VALUES:
            with self.assertRaises(UnknownThing) as caught:
                store.kind_of(odd)
            self.assertIs(caught.exception.name, odd)
            with self.assertRaises(UnknownName) as caught:
                store.facts_of(odd)
            self.assertIs(caught.exception.name, odd)

    def test_not_told_comes_ahead_of_no_row(self):
        store = road_store()
        for name in ["way", "any", "zz"] + ODD_VALUES:
            for call in (store.worth, store.has):
                with self.assertRaises(NotTold) as caught:
                    call(name, ("a", "b"))
                self.assertIs(caught.exception.name, name)
        for things in [("b", "a"), (), ("a",), ("a", "zz"), ("a", "b", "c"), ("red", "a")]:
            self.assertIs(store.has("road", things), False)
            with self.assertRaises(NoRow) as caught:
                store.worth("road", things)
            self.assertEqual((caught.exception.name, caught.exception.filled), ("road", things))

    def test_bad_things(self):
        for name in ["", "A", "a" * 13, "1", "q.0", "@a", "a b"]:
            with self.assertRaises(BadName, msg=name) as caught:
                store_of([("a", "town"), (name, "zz")], [("zz", (), "0")])
            self.assertEqual(caught.exception.name, name)
        for things, name in [
            ([("a", "zz")], "a"),
            ([("a", "town"), ("b", "")], "b"),
            ([("a", "town"), ("a", "town")], "a"),
            ([("a", "town"), ("b", "sort"), ("a", "sort")], "a"),
            ([("b", "road")], "b"),
        ]:
            with self.assertRaises(BadThing) as caught:
                store_of(things, [("zz", (), "0")])
            self.assertEqual(caught.exception.name, name)

    def test_things_one_by_one(self):
        with self.assertRaises(BadThing) as caught:
            store_of([("a", "zz"), ("B", "town")], [])
        self.assertEqual(caught.exception.name, "a")
        with self.assertRaises(BadName) as caught:
            store_of([("B", "zz"), ("a", "zz")], [])
        self.assertEqual(caught.exception.name, "B")

    def test_bad_rows(self):
        good = ("road", ("a", "b"), "1")
        for bad in [
            ("way", ("a", "b"), "1"),
            ("zz", ("a", "b"), "1"),
            ("road", ("a",), "1"),
            ("road", ("a", "b", "a"), "1"),
            ("road", (), "1"),
            ("open", ("a",), "1"),
            ("road", ("a", "red"), "1"),
            ("road", ("red", "a"), "1"),
            ("road", ("a", "zz"), "1"),
            ("road", ("a", "b"), "3"),
            ("road", ("a", "b"), ""),
            ("is", ("a", "b"), "1"),
        ]:
            with self.assertRaises(BadRow, msg=bad) as caught:
                store_of(THINGS, [good, bad, bad])
            self.assertEqual(caught.exception.number, 1)
            with self.assertRaises(BadRow) as caught:
                store_of(THINGS, []).with_rows([bad, good])
            self.assertEqual(caught.exception.number, 0)

    def test_twice_told(self):
        rows = [("open", (), "1"), ("road", ("a", "b"), "1"), ("road", ("b", "a"), "1"), ("road", ("a", "b"), "0")]
        for make in (lambda: store_of(THINGS, rows), lambda: store_of(THINGS, []).with_rows(rows)):
            with self.assertRaises(TwiceTold) as caught:
                make()
            self.assertEqual((caught.exception.name, caught.exception.filled), ("road", ("a", "b")))

    def test_rows_one_by_one(self):
        twice = [("open", (), "1"), ("open", (), "1"), ("zz", (), "1")]
        with self.assertRaises(TwiceTold):
            store_of(THINGS, twice)
        with self.assertRaises(BadRow) as caught:
            store_of(THINGS, [("open", (), "1"), ("zz", (), "1"), ("open", (), "1")])
        self.assertEqual(caught.exception.number, 1)
        # A row that is none and that is told twice is none.
        with self.assertRaises(BadRow) as caught:
            store_of(THINGS, [("open", (), "1"), ("open", (), "9")])
        self.assertEqual(caught.exception.number, 1)

    def test_tables_with_made_names(self):
        frame = made_frame(["k"], [("q.0", ("k",))], [])
        store = store_of([("a", "k")], [("q.0", ("a",), "1")], frame=frame)
        self.assertEqual(store.worth("q.0", ("a",)), "1")

    def test_same_names_of_unlike_sorts(self):
        frame = Frame(["a"], [("a", ("a", "a"))], [])
        store = store_of([("a", "a")], [("a", ("a", "a"), "1")], frame=frame)
        self.assertEqual(store.facts_of("a"), [("a", ("a", "a"))])
        self.assertIs(store.has("a", ("a", "a")), True)

    def test_with_rows(self):
        store = store_of(THINGS, [("open", (), "1")])
        other = store.with_rows([("road", ("a", "a"), "2")])
        self.assertEqual(other.rows(), [("road", ("a", "a"), "2")])
        self.assertEqual(store.rows(), [("open", (), "1")])
        self.assertEqual((other.things(), other.frame == store.frame, other.scale == store.scale), (THINGS, True, True))
        self.assertEqual(len(store.with_rows(())), 0)

    def test_equal(self):
        rows = [("open", (), "1"), ("road", ("a", "b"), "1")]
        store = store_of(THINGS, rows)
        self.assertTrue(store == store_of(THINGS, rows[::-1]))
        self.assertTrue(store == store_of(tuple(THINGS), tuple(rows)))
        for other in (
            store_of(THINGS[::-1], rows),
            store_of(THINGS + [("c", "town")], rows),
            store_of(THINGS, rows[:1]),
            store_of(THINGS, [rows[0], ("road", ("a", "b"), "2")]),
            store_of(THINGS, rows, scale=LevelScale(2)),
            store_of(THINGS, rows, frame=Frame(["sort", "town"], road_frame().told(), road_frame().ruled())),
        ):
            self.assertFalse(store == other)
            self.assertTrue(store != other)
        for other in ODD_VALUES + [object(), rows]:
            self.assertIs(store == other, False)

    def test_nothing_is_kept_or_shared(self):
        things, rows = list(THINGS), [("open", (), "1"), ("road", ("a", "b"), "1")]
        store = store_of(things, rows)
        twin = store_of(list(THINGS), list(rows))
        self.assertEqual((things, rows), (THINGS, [("open", (), "1"), ("road", ("a", "b"), "1")]))
        things.append(("z", "town"))
        rows.clear()
        for row in (store.things(), store.rows(), store.things_of("town"), store.facts_of("road")):
            row.clear()
        self.assertTrue(store == twin)
        self.assertEqual((store.things(), store.things_of("town"), len(store)), (THINGS, ["a", "b"], 2))
        self.assertEqual(len(store.facts_of("road")), 4)

    def test_several_scales(self):
        for scale in (yes_no(), PairScale(CountScale(2), LevelScale(3)), CostScale(0)):
            worths = scale.worths()
            store = store_of(THINGS, [("open", (), worths[-1]), ("road", ("a", "a"), worths[0])], scale=scale)
            self.assertEqual(store.worth("open", ()), worths[-1])
            self.assertEqual(store.worth("road", ("a", "a")), worths[0])
            with self.assertRaises(BadRow):
                store.with_rows([("open", (), "none/none")])


class Facts(unittest.TestCase):
    def test_which_are(self):
        frame, store = road_frame(), road_store()
        for name, _ in frame.told() + frame.ruled():
            for fact in store.facts_of(name):
                self.assertIs(is_fact(frame, store, fact), True)

    def test_which_are_not(self):
        frame, store = road_frame(), road_store()
        for value in ODD_VALUES + [
            ("road", ("a",)),
            ("road", ("a", "b", "c")),
            ("road", ("a", "red")),
            ("road", ("a", "zz")),
            ("road", ["a", "b"]),
            ["road", ("a", "b")],
            ("road", ("a", "b"), "0"),
            ("road",),
            ("zz", ()),
            ("open", ((),)),
            ("open", "" ""),
            ("open", None),
            (("road",), ("a", "b")),
            (["road"], ("a", "b")),
            ({}, ()),
            (None, ()),
            ("road", (["a"], "b")),
            ("road", ({}, None)),
            ("road", (1, 2)),
            ("good", "a"),
            ("town", ()),
        ]:
            self.assertIs(is_fact(frame, store, value), False, value)

    def test_of_another_frame(self):
        frame = Frame(["town"], [("road", ("town",))], [("new", ("town", "town"))])
        store = road_store()
        self.assertIs(is_fact(frame, store, ("road", ("a",))), True)
        self.assertIs(is_fact(frame, store, ("road", ("a", "b"))), False)
        self.assertIs(is_fact(frame, store, ("new", ("a", "b"))), True)
        self.assertIs(is_fact(frame, store, ("way", ("a", "b"))), False)


if __name__ == "__main__":
    unittest.main()

import random
import unittest

from tests.plain import plain_facts, plain_round, plain_settled, plain_tables
from tests.samples import (
    ODD_VALUES,
    RandomCases,
    families,
    lone,
    pairs,
    road_frame,
    road_program,
    road_store,
    small_scales,
    steady_scales,
    turning,
    yes_no,
)
from worthhouse.errors import BadTable, MixedFrames, MixedScales, NotSteady, TooMany, UnknownThing
from worthhouse.frames import Frame
from worthhouse.levels import settled_by_levels
from worthhouse.resting import steady
from worthhouse.rounds import breaker, first_table, going_round, round_of, ruled_facts, settled, tables
from worthhouse.rules import Program, need_fit
from worthhouse.scales import CostScale, CountScale, LevelScale, PairScale, TurnScale
from worthhouse.stores import Store
from worthhouse.texts import read_program, read_store
from worthhouse.uses import use_worth, uses_of

SPOTS = Frame(["k"], [("e", ("k", "k"))], [("p", ("k", "k")), ("n", ()), ("m", ())])
LINE = "a of k\nb of k\nc of k\nd of k\ne(a b) = 1\ne(b c) = 1\ne(c d) = 1"
CLOSURE = "one: p(x y) :- e(x y) * 1\nmore: p(x z) :- p(x y), e(y z) * 1"


def both(scale, rules, rows, frame=SPOTS):
    return read_program(frame, scale, rules), read_store(frame, scale, rows)


class Tables(unittest.TestCase):
    def test_facts_in_order(self):
        program, store = both(CountScale(2), "", "b of k\na of k")
        expected = [("p", ("b", "b")), ("p", ("b", "a")), ("p", ("a", "b")), ("p", ("a", "a")), ("n", ()), ("m", ())]
        self.assertEqual(ruled_facts(program, store), expected)
        self.assertEqual(list(first_table(program, store).items()), [(fact, "0") for fact in expected])
        self.assertEqual(ruled_facts(*both(CountScale(2), "", "")), [("n", ()), ("m", ())])

    def test_nought_of_the_scale(self):
        program, store = both(CostScale(2), "", "")
        self.assertEqual(first_table(program, store), {("n", ()): "none", ("m", ()): "none"})

    def test_rounds_told_in_full(self):
        program, store = both(CountScale(7), CLOSURE, LINE)
        behind = round_of(program, store, first_table(program, store))
        have = {fact for fact in behind if behind[fact] != "0"}
        self.assertEqual(have, {("p", ("a", "b")), ("p", ("b", "c")), ("p", ("c", "d"))})
        behind = round_of(program, store, behind)
        self.assertEqual(behind[("p", ("a", "c"))], "1")
        self.assertEqual(behind[("p", ("a", "d"))], "0")

    def test_all_facts_at_once(self):
        program, store = both(CountScale(7), "r: n() :- m() * 1\ns: m() :- n() * 1\nt: m() * 2", "")
        table = first_table(program, store)
        self.assertEqual(
            [list(behind.values()) for behind in tables(program, store, 4)],
            [["0", "0"], ["0", "2"], ["2", "2"], ["2", "4"], ["4", "4"]],
        )
        self.assertEqual(round_of(program, store, {("m", ()): "3", ("n", ()): "1"}), {("n", ()): "3", ("m", ()): "3"})
        self.assertEqual(table, {("n", ()): "0", ("m", ()): "0"})

    def test_the_order_of_a_table_that_is_handed_in_does_not_matter(self):
        program, store = road_program(), road_store()
        table = tables(program, store, 2)[2]
        turned = {fact: table[fact] for fact in reversed(list(table))}
        self.assertEqual(list(round_of(program, store, turned)), ruled_facts(program, store))
        self.assertEqual(round_of(program, store, turned), round_of(program, store, table))

    def test_no_use_gives_nought(self):
        program, store = both(CostScale(2), "r: n() :- m() * 0", "")
        self.assertEqual(round_of(program, store, {("n", ()): "1", ("m", ()): "2"}), {("n", ()): "2", ("m", ()): "none"})

    def test_an_atom_twice_counts_twice(self):
        program, store = both(CountScale(7), "r: n() :- m(), m() * 1", "")
        self.assertEqual(round_of(program, store, {("n", ()): "1", ("m", ()): "2"})[("n", ())], "4")

    def test_two_rules_alike_both_count(self):
        program, store = both(CountScale(7), "r: n() * 1\ns: n() * 1\nt: n() :- m() * 2\nu: n() :- m() * 2", "")
        self.assertEqual(round_of(program, store, {("n", ()): "0", ("m", ()): "1"})[("n", ())], "6")

    def test_bad_tables(self):
        program, store = both(CountScale(2), "", "a of k")
        good = first_table(program, store)
        bad_ones = list(ODD_VALUES)
        bad_ones += [list(good.items()), tuple(good), {**good, ("zz", ()): "0"}, {**good, 3: "0"}]
        bad_ones += [{fact: good[fact] for fact in list(good)[1:]}]
        for fact in good:
            bad_ones += [{**good, fact: odd} for odd in ODD_VALUES + ["3", "none"] if odd != "0"]
        short = {fact: good[fact] for fact in list(good)[1:]}
        bad_ones += [{**short, key: "0"} for key in ("p", None, 0, ("p", ("b", "b")), ("p", "a"), ("e", ("a", "a")))]
        for bad in bad_ones:
            with self.assertRaises(BadTable, msg=bad):
                round_of(program, store, bad)
        self.assertEqual(round_of(program, store, {**good, ("n", ()): "2"}), good)

    def test_a_table_of_no_facts(self):
        program, store = both(CountScale(2), "", "", Frame(["k"], [("e", ("k",))], [("p", ("k",))]))
        self.assertEqual(round_of(program, store, {}), {})
        self.assertEqual(settled(program, store), ({}, 0))
        self.assertEqual(going_round(program, store), (0, 1))
        with self.assertRaises(BadTable):
            round_of(program, store, [])

    def test_tables(self):
        program, store = both(CountScale(7), CLOSURE, LINE)
        self.assertEqual(tables(program, store, 0), [first_table(program, store)])
        found = tables(program, store, 60)
        self.assertEqual(len(found), 61)
        for k in range(60):
            self.assertEqual(found[k + 1], round_of(program, store, found[k]))

    def test_tables_belong_to_the_caller(self):
        program, store = both(CountScale(7), CLOSURE, LINE)
        found = tables(program, store, 6)
        found[5].clear()
        found[0][("n", ())] = "zz"
        self.assertEqual(found[6], tables(program, store, 6)[6])
        self.assertEqual(found[1], tables(program, store, 1)[1])
        table = first_table(program, store)
        round_of(program, store, table).clear()
        self.assertEqual(table, first_table(program, store))
        ruled_facts(program, store).clear()
        settled(program, store)[0].clear()
        self.assertEqual(settled(program, store), plain_settled(program, store))

    def test_against_the_plain_way(self):
        cases = RandomCases(51)
        scales = small_scales()
        for k in range(120):
            program, store = cases.case(scales[k % len(scales)])
            self.assertEqual(ruled_facts(program, store), plain_facts(program, store))
            expected = plain_tables(program, store, 4)
            found = tables(program, store, 4)
            self.assertEqual(found, expected)
            self.assertEqual([list(table) for table in found], [list(table) for table in expected])
            table = {fact: cases.random.choice(program.scale.worths()) for fact in found[0]}
            self.assertEqual(round_of(program, store, table), plain_round(program, store, table))


class Settled(unittest.TestCase):
    def test_counts_of_rounds(self):
        program, store = both(CountScale(7), CLOSURE, LINE)
        table, rounds = settled(program, store)
        self.assertEqual(rounds, 3)
        self.assertEqual(table[("p", ("a", "d"))], "1")
        self.assertEqual(table, round_of(program, store, table))
        self.assertEqual(settled(*both(CountScale(7), "", LINE))[1], 0)
        self.assertEqual(settled(*both(CountScale(7), "r: n() * 1", ""))[1], 1)
        self.assertEqual(settled(*both(CountScale(7), "r: n() * 0", ""))[1], 0)
        self.assertEqual(settled(*both(CountScale(7), "r: n() :- n() * 1", ""))[1], 0)
        self.assertEqual(settled(*both(CountScale(7), "r: n() :- n() * 1\ns: n() * 1", ""))[1], 7)

    def test_costs(self):
        rows = "a of k\nb of k\nc of k\ne(a b) = 1\ne(b c) = 1\ne(a c) = 5\ne(c a) = 0"
        program, store = both(CostScale(6), "one: p(x y) :- e(x y) * 0\nmore: p(x z) :- p(x y), p(y z) * 0", rows)
        table, rounds = settled(program, store)
        self.assertEqual([table[("p", ("a", x))] for x in "abc"], ["2", "1", "2"])
        self.assertEqual(rounds, 3)

    def test_one_worth_alone(self):
        frame = Frame([], [], [("n", ())])
        program = Program(frame, lone(), [("r", ("n", ()), (), (), "w")])
        self.assertEqual(settled(program, Store(frame, lone(), [], [])), ({("n", ()): "w"}, 0))

    def test_against_the_plain_way(self):
        cases = RandomCases(52)
        scales = steady_scales()
        most = 0
        for k in range(100):
            program, store = cases.case(scales[k % len(scales)])
            table, rounds = settled(program, store)
            self.assertEqual((table, rounds), plain_settled(program, store))
            self.assertEqual(list(table), ruled_facts(program, store))
            self.assertEqual(going_round(program, store), (rounds, 1))
            most = max(most, rounds)
        self.assertGreater(most, 3)

    def test_scales_that_are_the_same(self):
        frame = Frame([], [], [("n", ())])
        program = Program(frame, CountScale(1), [("r", ("n", ()), (), (), "1")])
        self.assertEqual(settled(program, Store(frame, LevelScale(1), [], [])), ({("n", ()): "1"}, 1))

    def test_not_steady(self):
        for scale in (turning(), TurnScale(4), PairScale(CountScale(1), TurnScale(2))):
            with self.assertRaises(NotSteady):
                settled(road_program(scale), road_store(scale))
            with self.assertRaises(NotSteady):
                settled(*both(scale, "", ""))


class GoingRound(unittest.TestCase):
    def test_told_in_full(self):
        self.assertEqual(going_round(*both(TurnScale(5), "r: n() * 1\ns: n() :- n() * 1", "")), (0, 5))
        self.assertEqual(going_round(*both(TurnScale(4), "r: n() * 1\ns: n() :- n() * 2", "")), (2, 1))
        self.assertEqual(going_round(*both(TurnScale(6), "r: n() * 1\ns: n() :- n() * 3", "")), (1, 2))
        self.assertEqual(going_round(*both(TurnScale(2), "r: n() :- m() * 1\ns: m() :- n() * 1\nt: m() * 1", "")), (0, 4))
        self.assertEqual(going_round(*both(CountScale(7), "r: n() * 1\ns: n() :- n() * 1", "")), (7, 1))

    def test_behind_how_many_rounds(self):
        for cycles, length in [([3, 5, 7], 105), ([4, 5, 7], 140), ([6, 4], 12)]:
            self.assertEqual(going_round(*clock(cycles)), (1, length))

    def test_the_bound(self):
        # The table behind the first round comes again behind 299 further ones, so 300 rounds are just enough.
        self.assertEqual(going_round(*clock([13, 23])), (1, 299))
        for cycles in ([3, 4, 25], [7, 43], [17, 18], [3, 4, 5, 7]):
            with self.assertRaises(TooMany):
                going_round(*clock(cycles))

    def test_against_the_plain_way(self):
        rng = random.Random(53)
        found = set()
        names = ["n", "m", "l"]
        frame = Frame([], [], [(name, ()) for name in names])
        for k in range(240):
            scale = [turning(), TurnScale(3), TurnScale(4), CountScale(2)][k % 4]
            rules = []
            for number in range(rng.randint(3, 7)):
                body = tuple((name, ()) for name in rng.choices(names, k=rng.randint(0, 2)))
                rules.append(("r" + str(number), (rng.choice(names), ()), body, (), rng.choice(scale.worths())))
            program, store = Program(frame, scale, rules), Store(frame, scale, [], [])
            rows = plain_tables(program, store, 66)
            again = [(i, j - i) for j in range(67) for i in range(j) if rows[i] == rows[j]]
            self.assertEqual(going_round(program, store), again[0])
            found.add(again[0])
        self.assertGreater(len([1 for _, length in found if length > 1]), 3)
        self.assertGreater(len({start for start, _ in found}), 3)


def clock(cycles):
    """A program over remainders by two, and its store, with a ring of facts for each of the cycles.

    From the first round on one fact of each ring has the worth one, and each round hands
    it on. So the table behind one round comes again behind the least common multiple.
    """
    ruled, rules = [], []
    for number, size in enumerate(cycles):
        names = [f"c{number}x{place}" for place in range(size)]
        ruled += [(name, ()) for name in names]
        rules += [(names[k], (names[k], ()), ((names[k - 1], ()),), (), "1") for k in range(1, size)]
        # One plus all facts but the last: one at first, and that of the last fact in all further rounds.
        rules.append((names[0], (names[0], ()), (), (), "1"))
        rules += [(f"{names[0]}y{k}", (names[0], ()), ((names[k], ()),), (), "1") for k in range(size - 1)]
    frame = Frame([], [], ruled)
    return Program(frame, TurnScale(2), rules), Store(frame, TurnScale(2), [], [])


class Breakers(unittest.TestCase):
    def test_none_for_steady_scales(self):
        for scale in families() + pairs() + [yes_no(), lone()]:
            self.assertEqual(breaker(scale) is None, steady(scale))

    def test_goes_round(self):
        odd_ones = [scale for scale in families() + pairs() + [turning()] if not steady(scale)]
        self.assertGreater(len(odd_ones), 8)
        for scale in odd_ones:
            found = breaker(scale)
            self.assertIsInstance(found, tuple)
            program, store = found
            self.assertIsInstance(program, Program)
            self.assertIsInstance(store, Store)
            self.assertTrue(program.scale == scale and store.scale == scale)
            self.assertLessEqual(len(program), 2)
            self.assertIsNone(need_fit(program, store))
            self.assertGreater(going_round(program, store)[1], 1)


class NeedFit(unittest.TestCase):
    def test_ahead_of_all_others(self):
        scale = turning()
        program = road_program(scale)
        frame = Frame(["sort", "town"], road_frame().told(), road_frame().ruled())
        calls = [
            ruled_facts,
            first_table,
            lambda *given: round_of(*given, None),
            lambda *given: tables(*given, 2),
            settled,
            going_round,
            settled_by_levels,
            uses_of,
            lambda *given: use_worth(*given, uses_of(program, road_store(scale))[0]),
        ]
        for call in calls:
            with self.assertRaises(MixedFrames):
                call(program, Store(frame, yes_no(), [], []))
            with self.assertRaises(MixedScales):
                call(program, Store(road_frame(), yes_no(), [], []))
            for things, missing in [([], "red"), ([("red", "sort")], "b"), ([("red", "sort"), ("b", "sort")], "b")]:
                with self.assertRaises(UnknownThing) as caught:
                    call(program, Store(road_frame(), scale, things, []))
                self.assertEqual(caught.exception.name, missing)


if __name__ == "__main__":
    unittest.main()

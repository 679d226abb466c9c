import random
import unittest

from tests.plain import plain_facts, plain_round, plain_settled, plain_uses, plain_worth
from tests.plainlines import many_cases, plain_whole
from tests.samples import ODD_VALUES, road_program, road_store, steady_scales, turning
from worthhouse.asking import settled_on, settled_one_by_one, whole_facts
from worthhouse.errors import BadTable, MixedFrames, MixedScales, NotSteady, UnknownFact, UnknownThing
from worthhouse.frames import Frame
from worthhouse.rounds import ruled_facts, settled
from worthhouse.rules import Program
from worthhouse.scales import CostScale, CountScale, TurnScale
from worthhouse.stores import Store
from worthhouse.texts import read_program, read_store

FRAME = Frame(["k"], [("e", ("k", "k"))], [("p", ("k", "k")), ("n", ()), ("m", ())])
ROWS = "a of k\nb of k\nc of k\ne(a b) = 1\ne(b c) = 1"
RULES = "one: p(x y) :- e(x y) * 1\nmore: p(x z) :- p(x y), e(y z) * 1\nsome: n() :- p(x y) * 1"


def case(rules=RULES, rows=ROWS, scale=None):
    scale = CountScale(7) if scale is None else scale
    return read_program(FRAME, scale, rules), read_store(FRAME, scale, rows)


def p(x, y):
    return ("p", (x, y))


def misfits():
    """Pairs of a program and a store that it does not fit, with the error."""
    program, store = case()
    other = Frame(["k"], [("e", ("k", "k"))], [("p", ("k", "k"))])
    yield program, Store(other, store.scale, [], []), MixedFrames
    yield program, Store(FRAME, CountScale(3), [], []), MixedScales
    yield case("r: p(@a @b) * 1")[0], Store(FRAME, store.scale, [("a", "k")], []), UnknownThing
    # In a scale that is not steady likewise: need_fit comes ahead of NotSteady.
    turns = TurnScale(3)
    yield Program(FRAME, turns, []), Store(other, turns, [], []), MixedFrames
    yield Program(FRAME, turns, []), store, MixedScales
    yield case("r: p(@a @b) * 1", scale=turns)[0], Store(FRAME, turns, [("a", "k")], []), UnknownThing


def plain_one_by_one(program, store, order):
    scale = program.scale
    uses = plain_uses(program, store)
    table = {fact: scale.nought for fact in plain_facts(program, store)}
    passes = 0
    while True:
        before = dict(table)
        for fact in order:
            worths = []
            for use in uses:
                if use[2] == fact:
                    worth = plain_worth(program, store, use)
                    for below in use[4]:
                        worth = scale.times(worth, table[below])
                    worths.append(worth)
            table[fact] = scale.total(worths)
        if table == before:
            return table, passes
        passes += 1


class OneByOne(unittest.TestCase):
    def test_order_tells_the_passes(self):
        rules = "r: n() :- m() * 1\ns: m() * 3"
        program, store = case(rules, "")
        forth = [("m", ()), ("n", ())]
        self.assertEqual(settled_one_by_one(program, store, forth), ({("n", ()): "3", ("m", ()): "3"}, 1))
        self.assertEqual(settled_one_by_one(program, store, forth[::-1]), ({("n", ()): "3", ("m", ()): "3"}, 2))

    def test_the_table_stands_in_the_order_of_ruled_facts(self):
        program, store = case()
        facts = ruled_facts(program, store)
        table, passes = settled_one_by_one(program, store, facts[::-1])
        self.assertEqual(list(table), facts)
        self.assertEqual(table, settled(program, store)[0])
        self.assertEqual(passes, 3)

    def test_nothing_to_do(self):
        program, store = case("", "")
        self.assertEqual(settled_one_by_one(program, store, [("m", ()), ("n", ())])[1], 0)
        empty = Frame([], [], [])
        scale = CountScale(1)
        self.assertEqual(settled_one_by_one(Program(empty, scale, []), Store(empty, scale, [], []), []), ({}, 0))
        self.assertEqual(settled_one_by_one(Program(empty, scale, []), Store(empty, scale, [], []), ()), ({}, 0))

    def test_against_the_plain_way_in_several_orders(self):
        rng = random.Random(5)
        for program, store in many_cases(71, steady_scales(), 80):
            order = ruled_facts(program, store)
            for _ in range(3):
                rng.shuffle(order)
                table, passes = settled_one_by_one(program, store, order)
                self.assertEqual((table, passes), plain_one_by_one(program, store, order))
                self.assertEqual(table, settled(program, store)[0])
                self.assertEqual(list(table), plain_facts(program, store))

    def test_a_tuple_is_taken_like_a_list_and_stays_as_it_is(self):
        program, store = road_program(), road_store()
        order = ruled_facts(program, store)[::-1]
        kept = list(order)
        found = settled_one_by_one(program, store, order)
        self.assertEqual(found, settled_one_by_one(program, store, tuple(order)))
        found[0].clear()
        order.clear()
        self.assertEqual(settled_one_by_one(program, store, kept), plain_one_by_one(program, store, kept))

    def test_bad_orders(self):
        program, store = case("", "a of k")
        good = [p("a", "a"), ("n", ()), ("m", ())]
        bad_ones = list(ODD_VALUES) + [good[:2], good + [("n", ())], [good[0], good[0], good[1]], [*good, None]]
        bad_ones += [dict.fromkeys(good), "abc", ("p", ("a", "a"))]
        for place in range(3):
            for odd in ODD_VALUES + [("e", ("a", "a")), ("p", ["a", "a"]), ["n", ()], ("p", ("a", "b")), ("zz", ())]:
                bad_ones.append(good[:place] + [odd] + good[place + 1 :])
        for bad in bad_ones:
            with self.assertRaises(BadTable, msg=bad):
                settled_one_by_one(program, store, bad)
        settled_one_by_one(program, store, good)

    def test_not_steady_comes_ahead_of_bad_orders(self):
        for scale in (turning(), TurnScale(4)):
            with self.assertRaises(NotSteady):
                settled_one_by_one(road_program(scale), road_store(scale), None)

    def test_misfits_come_first(self):
        for program, store, error in misfits():
            for call in (settled_one_by_one, whole_facts, settled_on):
                with self.assertRaises(error):
                    call(program, store, [None])


class Whole(unittest.TestCase):
    def test_told_in_full(self):
        program, store = case()
        self.assertEqual(whole_facts(program, store, [p("a", "c")]), [p("a", "a"), p("a", "b"), p("a", "c")])
        self.assertEqual(whole_facts(program, store, [p("b", "a")]), [p("b", "a")])
        found = whole_facts(program, store, [("m", ()), p("b", "b"), ("m", ())])
        self.assertEqual(found, [p("b", "a"), p("b", "b"), ("m", ())])
        self.assertEqual(whole_facts(program, store, [("n", ())]), ruled_facts(program, store)[:10])
        self.assertEqual(whole_facts(program, store, []), [])
        self.assertEqual(whole_facts(program, store, ()), [])

    def test_uses_count_whatever_their_worth(self):
        program, store = case("r: n() :- m() * 0\ns: m() :- e(x y), p(x x) * 1", "a of k\ne(a a) = 0")
        self.assertEqual(whole_facts(program, store, [("n", ())]), [p("a", "a"), ("n", ()), ("m", ())])
        # Without a row there is no use.
        program, store = case("r: n() :- m() * 0\ns: m() :- e(x y), p(x x) * 1", "a of k")
        self.assertEqual(whole_facts(program, store, [("n", ())]), [("n", ()), ("m", ())])

    def test_in_any_scale(self):
        program, store = road_program(turning()), road_store(turning())
        self.assertEqual(whole_facts(program, store, [("any", ())])[0], ("way", ("a", "a")))

    def test_against_the_plain_way(self):
        rng = random.Random(6)
        for program, store in many_cases(72, steady_scales() + [turning()], 100):
            facts = ruled_facts(program, store)
            for many in (0, 1, 2):
                asked = [rng.choice(facts) for _ in range(many) if facts]
                self.assertEqual(whole_facts(program, store, asked), plain_whole(program, store, asked))
                self.assertEqual(whole_facts(program, store, tuple(asked)), plain_whole(program, store, asked))


class SettledOn(unittest.TestCase):
    def test_told_in_full(self):
        program, store = case()
        self.assertEqual(settled_on(program, store, [p("a", "c")]), ({p("a", "a"): "0", p("a", "b"): "1", p("a", "c"): "1"}, 2))
        self.assertEqual(settled_on(program, store, [p("b", "b")] * 2), ({p("b", "a"): "0", p("b", "b"): "0"}, 0))
        self.assertEqual(settled_on(program, store, [("m", ())]), ({("m", ()): "0"}, 0))
        self.assertEqual(settled_on(program, store, []), ({}, 0))

    def test_against_settled(self):
        rng = random.Random(7)
        for program, store in many_cases(73, steady_scales(), 80):
            facts = ruled_facts(program, store)
            table, rounds = settled(program, store)
            self.assertEqual(settled_on(program, store, facts), (table, rounds))
            for many in (1, 2):
                asked = [rng.choice(facts) for _ in range(many) if facts]
                found, count = settled_on(program, store, asked)
                whole = plain_whole(program, store, asked)
                self.assertEqual(list(found), whole)
                self.assertEqual(found, {fact: table[fact] for fact in whole})
                self.assertEqual(count, self.plain_rounds(program, store, whole))

    def plain_rounds(self, program, store, whole):
        """What these facts alone do in rounds, which no other fact has a part in."""
        table = {fact: program.scale.nought for fact in plain_facts(program, store)}
        count = 0
        while True:
            behind = plain_round(program, store, table)
            if all(behind[fact] == table[fact] for fact in whole):
                return count
            table, count = behind, count + 1

    def test_is_the_plain_settled_table(self):
        program, store = road_program(), road_store()
        table, _ = plain_settled(program, store)
        self.assertEqual(settled_on(program, store, [("any", ())])[0][("any", ())], table[("any", ())])


class UnknownFacts(unittest.TestCase):
    def test_the_first_one_is_told(self):
        program, store = road_program(), road_store()
        good = ("good", ("a",))
        bad_ones = ODD_VALUES + [("road", ("a", "b")), ("good", ["a"]), ["good", ("a",)], ("good", ("red",)), ("good", ("a", "a"))]
        for call in (whole_facts, settled_on):
            for odd in bad_ones:
                with self.assertRaises(UnknownFact) as caught:
                    call(program, store, [good, odd, "later"])
                self.assertIs(caught.exception.fact, odd)

    def test_ahead_of_not_steady(self):
        scale = TurnScale(3)
        program, store = road_program(scale), road_store(scale)
        with self.assertRaises(UnknownFact):
            settled_on(program, store, [("good", ("a",)), None])
        with self.assertRaises(NotSteady):
            settled_on(program, store, [("good", ("a",))])
        with self.assertRaises(NotSteady):
            settled_on(program, store, [])

    def test_nothing_is_changed_or_shared(self):
        program, store = road_program(CostScale(6)), road_store(CostScale(6))
        asked = [("any", ())]
        table, rounds = settled_on(program, store, asked)
        expected = (dict(table), rounds)
        table.clear()
        whole_facts(program, store, asked).clear()
        self.assertEqual(asked, [("any", ())])
        self.assertEqual(settled_on(program, store, asked), expected)


if __name__ == "__main__":
    unittest.main()

import random
import unittest

from tests.housecases import some_houses, step
from tests.deedcases import some_deed
from tests.samples import ODD_VALUES, road_program, road_store, turning
from tests.test_house import A, EDGE, N, RULE, TELL, house, told
from worthhouse.attempts import attempt, tried, would
from worthhouse.errors import BadDeed, Clash, NoState, NothingDone, NotSteady, TooMany, UnknownFact, UnknownLabel, UnknownName
from worthhouse.house import House


class Own(Exception):
    """An error of no class of the package."""


class Attempts(unittest.TestCase):
    def all_calls(self, one):
        one.do(EDGE)
        one.branch("later")
        one.do(("unrule", "z"))
        one.undo()
        one.go("later")
        one.watch([A])
        one.do(("rule", RULE))
        one.merge("main")
        one.go("main")

    def started(self):
        one = house()
        one.do(TELL)
        one.branch("b")
        one.watch([N])
        one.do(("tell", "t", (), "6"))
        one.undo()
        return one

    def test_what_it_returns(self):
        one = house()
        self.assertEqual(attempt(one, lambda held: held.do(TELL)), 1)
        self.assertIsNone(attempt(one, lambda held: None))
        self.assertIs(attempt(one, lambda held: held), one)
        self.assertEqual(len(one), 2)

    def test_all_stays(self):
        one, other = self.started(), self.started()
        attempt(one, self.all_calls)
        self.all_calls(other)
        self.assertEqual(one, other)
        self.assertEqual(told(one), told(other))

    def test_an_error_that_leaves_it(self):
        for error in (Own("why"), BadDeed(), ValueError(), KeyError(7), SystemExit(3), KeyboardInterrupt(), NotSteady()):
            one = self.started()
            before = told(one)

            def action(held):
                self.all_calls(held)
                raise error

            with self.assertRaises(type(error)) as caught:
                attempt(one, action)
            self.assertIs(caught.exception, error)
            self.assertEqual(told(one), before)
            self.assertEqual(one, self.started())
            # The numbers are given again.
            self.assertEqual(one.do(EDGE), 3)
            self.assertEqual((one.worth(A), one.kept()[0]), ("3", (N, ("o", ("b",)), A)))

    def test_errors_of_the_house(self):
        calls = [
            (lambda held: held.do(None), BadDeed), (lambda held: held.go("zz"), UnknownName), (lambda held: held.state(99), NoState),
            (lambda held: [held.undo(), held.undo()], NothingDone), (lambda held: held.watch([N, None]), UnknownFact),
        ]
        for call, error in calls:
            one = self.started()
            before = told(one)

            def action(held):
                held.do(EDGE)
                held.undo()
                call(held)

            with self.assertRaises(error):
                attempt(one, action)
            self.assertEqual(told(one), before)

    def test_a_clash_falls_back(self):
        one = house()
        one.branch("b")
        one.do(TELL)
        one.go("b")
        before = told(one)

        def action(held):
            held.do(("tell", "t", (), "7"))
            held.merge("main")

        with self.assertRaises(Clash):
            attempt(one, action)
        self.assertEqual(told(one), before)

    def test_attempts_in_one_another(self):
        one = self.started()
        before = told(one)

        def inner(held):
            held.do(EDGE)
            return "done"

        def failing(held):
            held.do(("unrule", "z"))
            raise Own()

        def outer(held):
            held.do(("clear", "t", ()))
            middle = told(held)
            try:
                attempt(held, failing)
            except Own:
                self.assertEqual(told(held), middle)
            self.assertEqual(attempt(held, inner), "done")
            self.assertEqual(len(held), 5)

        attempt(one, outer)
        self.assertEqual([deed for _, deed in one.log()[2:]], [("clear", "t", ()), EDGE])
        one = self.started()

        def fails_behind(held):
            outer(held)
            raise Own()

        # The inner one that succeeded falls with the outer one.
        with self.assertRaises(Own):
            attempt(one, fails_behind)
        self.assertEqual(told(one), before)

    def test_random_calls(self):
        rng = random.Random(221)
        for one, plain, _ in some_houses(rng, 221, 40, 15):
            before = told(one)

            def action(held):
                for _ in range(10):
                    step(rng, held, plain)
                raise Own()

            with self.assertRaises(Own):
                attempt(one, action)
            self.assertEqual(told(one), before)


class Tried(unittest.TestCase):
    def test_all_or_none(self):
        one = house()
        self.assertEqual(tried(one, [TELL, EDGE]), [1, 2])
        self.assertEqual(tried(one, ()), [])
        self.assertEqual(tried(one, (("unrule", "z"),)), [3])
        before = told(one)
        with self.assertRaises(UnknownLabel) as caught:
            tried(one, [TELL, EDGE, ("unrule", "z"), None])
        self.assertEqual(caught.exception.name, "z")
        self.assertEqual(told(one), before)
        for odd in ODD_VALUES:
            with self.assertRaises(BadDeed):
                tried(one, [TELL, odd])
            self.assertEqual(told(one), before)
        # A deed may stand on one ahead of it.
        self.assertEqual(tried(one, [("rule", RULE), ("unrule", "m"), ("rule", RULE)]), [4, 5, 6])

    def test_too_many(self):
        one = house()
        self.assertEqual(tried(one, [TELL] * 198)[-1], 198)
        before = told(one)
        with self.assertRaises(TooMany):
            tried(one, [TELL, TELL])
        self.assertEqual(told(one), before)
        with self.assertRaises(TooMany):
            would(one, [TELL, TELL], [None])
        self.assertEqual(tried(one, [TELL]), [199])

    def test_against_single_deeds(self):
        rng = random.Random(222)
        for one, _, _ in some_houses(rng, 222, 30, 10):
            other, deeds = one.twin(), []
            for _ in range(3):
                deed = some_deed(rng, *other.now())
                if deed is not None:
                    deeds.append(deed)
                    other.do(deed)
            self.assertEqual(tried(one, deeds), list(range(len(other) - len(deeds), len(other))))
            self.assertEqual(one, other)


class Would(unittest.TestCase):
    def test_told_in_full(self):
        one = house()
        one.watch([N])
        before = told(one)
        self.assertEqual(would(one, [EDGE], [N, A, N]), ["4", "3", "4"])
        self.assertEqual(would(one, [], (N,)), ["1"])
        self.assertEqual(would(one, (EDGE, ("unrule", "a")), []), [])
        self.assertEqual(would(one, (EDGE, ("unrule", "a")), [A]), ["0"])
        self.assertEqual(told(one), before)
        self.assertEqual(one.do(TELL), 1)

    def test_errors(self):
        one = house()
        before = told(one)
        for deeds, facts, error in [
            ([TELL, None], [None], BadDeed), ([("unrule", "zz")], [None], UnknownLabel), ([EDGE], [N, None, 7], UnknownFact), ([EDGE], [("t", ())], UnknownFact),
        ]:
            with self.assertRaises(error):
                would(one, deeds, facts)
            self.assertEqual(told(one), before)
        odd = House(road_program(turning()), road_store(turning()))
        with self.assertRaises(NotSteady):
            would(odd, [], [("any", ()), None])
        with self.assertRaises(UnknownFact):
            would(odd, [], [None, ("any", ())])
        self.assertEqual(would(odd, [("unrule", "some")], []), [])

    def test_what_is_passed_stays(self):
        one = house()
        deeds, facts = [EDGE, TELL], [N]
        would(one, deeds, facts).clear()
        tried(one, deeds).clear()
        self.assertEqual((deeds, facts), ([EDGE, TELL], [N]))
        deeds.clear()
        self.assertEqual([deed for _, deed in one.log()], [EDGE, TELL])


if __name__ == "__main__":
    unittest.main()

import itertools
import random
import unittest

from tests.plain import plain_uses
from tests.plainlines import many_cases
from tests.samples import ODD_VALUES, steady_scales, turning
from tests.test_asking import misfits
from tests.turncases import some_turns, with_a_twin
from worthhouse.compiling import store_over
from worthhouse.costs import best_plan, cost, plan_costs
from worthhouse.errors import BadTurn, UnknownName, UnknownThing
from worthhouse.frames import Frame
from worthhouse.scales import CountScale
from worthhouse.texts import read_program, read_store
from worthhouse.turns import all_turns, planned, turned

COUNTS = CountScale(7)
FRAME = Frame(["k"], [("e", ("k", "k"))], [("p", ("k", "k")), ("o", ("k",)), ("n", ())])
STORE = "a of k\nb of k\nc of k\ne(a b) = 1\ne(b c) = 0\ne(b b) = 1"


def case(rules, store=STORE):
    return read_program(FRAME, COUNTS, rules), read_store(FRAME, COUNTS, store)


def plain_cost(program, store):
    return len(plain_uses(program, store_over(program.frame, store)))


def plain_best(program, store, names, most):
    """The best plan by trial of all rows of turns."""
    plans = [([], program)]
    level = plans
    for _ in range(most):
        level = [(turns + [turn], turned(met, turn)) for turns, met in level for turn in all_turns(met, names)]
        plans = plans + level
    costs = [plain_cost(met, store) for _, met in plans]
    at = costs.index(min(costs))
    return (plans[at][0], costs[at])


class Costs(unittest.TestCase):
    def test_told_in_full(self):
        self.assertEqual(cost(*case("")), 0)
        self.assertEqual(cost(*case("a: n() * 0")), 1)
        self.assertEqual(cost(*case("a: p(x y) :- e(x y) * 1")), 3)
        # Rows of nought count, and ruled atoms alone leave things free.
        self.assertEqual(cost(*case("a: n() :- o(x), p(y z), y != z * 1\nb: n() :- o(x), e(y @b) * 1")), 18 + 6)
        self.assertEqual(cost(*case("a: n() :- o(x), o(y) * 1", "")), 0)

    def test_against_all_uses(self):
        rng = random.Random(141)
        for made, store in many_cases(141, steady_scales() + [turning()], 120):
            self.assertEqual(cost(made, store), plain_cost(made, store))
            for turn in some_turns(rng, made, store)[:3]:
                try:
                    behind = turned(made, turn)
                except BadTurn:
                    continue
                self.assertEqual(cost(behind, store_over(behind.frame, store)), plain_cost(behind, store))

    def test_plan_costs(self):
        made, store = case("a: n() :- o(x), p(y y) * 1\nb: o(x) :- e(x y) * 1\nc: p(x y) :- e(x y) * 1")
        self.assertEqual(plan_costs(made, store, []), [9 + 3 + 3])
        turns = [("unfold", "a", 1), ("unfold", "a.0", 0), ("drop", ("n",)), ("fold", "a.1", (0,))]
        # n() :- o(x), e(y y): 3; n() :- e(x u1), e(y y): 3; the others go; the new rule has 3 uses, the rule 1.
        self.assertEqual(plan_costs(made, store, turns), [15, 9, 9, 3, 4])
        self.assertEqual(plan_costs(made, store, tuple(turns)), [15, 9, 9, 3, 4])

    def test_errors_of_plan_costs(self):
        made, store = case("a: n() :- o(x) * 1\nb: o(x) :- e(x y) * 1")
        good = ("order", "a", (0,))
        for odd in ODD_VALUES + [("unfold", "b", 0)]:
            with self.assertRaises(BadTurn):
                plan_costs(made, store, [good, odd, ("special", "o", 0, "new")])
        with self.assertRaises(UnknownThing) as caught:
            plan_costs(made, store, [good, ("special", "o", 0, "new"), None])
        self.assertEqual(caught.exception.name, "new")

    def test_need_fit_comes_first(self):
        for made, store, error in misfits():
            for call in (lambda: cost(made, store), lambda: plan_costs(made, store, [None]), lambda: best_plan(made, store, [None], 1)):
                with self.assertRaises(error):
                    call()


class Best(unittest.TestCase):
    def test_told_in_full(self):
        made, store = case("a: n() :- o(x), o(y) * 1\nb: o(x) :- e(x y) * 1\nc: p(x y) :- e(x y) * 1")
        self.assertEqual(best_plan(made, store, ["n"], 0), ([], 15))
        self.assertEqual(best_plan(made, store, ["n"], 1), ([("drop", ("n",))], 12))
        self.assertEqual(best_plan(made, store, ["n", "p"], 1), ([], 15))
        self.assertEqual(best_plan(made, store, [], 1), ([("drop", ())], 0))
        self.assertEqual(best_plan(made, store, (), 2), ([("drop", ())], 0))

    def test_of_equal_plans_the_first(self):
        made, store = case("a: n() :- e(x y) * 1\nb: n() :- e(x y) * 1\nc: n() :- e(x y) * 1")
        self.assertEqual(best_plan(made, store, ["n"], 1), ([("join", "a", "b")], 6))
        self.assertEqual(best_plan(made, store, ["n"], 2), ([("join", "a", "b"), ("join", "a", "c")], 3))

    def test_no_turn_where_none_saves(self):
        made, store = case("a: n() :- e(x y), e(y z) * 1")
        self.assertEqual(best_plan(made, store, ["n"], 2), ([], 4))

    def test_a_dear_turn_ahead_of_a_drop(self):
        made, store = case("a: n() :- o(x) * 1\nb: o(x) :- e(x y) * 1\nc: o(x) :- e(y x) * 1")
        # The first turn costs 3 more; then neither rule of o is needed any longer.
        self.assertEqual(plan_costs(made, store, [("unfold", "a", 0), ("drop", ("n",))]), [9, 12, 6])
        self.assertEqual(best_plan(made, store, ["n"], 2), ([("unfold", "a", 0), ("drop", ("n",))], 6))
        self.assertEqual(best_plan(made, store, ["n"], 2), plain_best(made, store, ["n"], 2))

    def small_cases(self, seed, many):
        for made, store in many_cases(seed, steady_scales(), many):
            if len(made) <= 5 and all(len(rule[2]) <= 3 for rule in made.rules()):
                yield made, store

    def test_by_trial_of_all_turns(self):
        rng = random.Random(142)
        saved = 0
        for made, store in self.small_cases(142, 90):
            names = [name for name, _ in made.frame.ruled() if rng.random() < 0.7]
            found = best_plan(made, store, names, 1)
            self.assertEqual(found, plain_best(made, store, names, 1))
            saved += found[1] < plain_cost(made, store)
        self.assertGreater(saved, 15)

    def test_by_trial_of_two_turns(self):
        rng = random.Random(143)
        two = 0
        for made, store in itertools.islice(self.small_cases(143, 160), 90):
            made = with_a_twin(rng, made)
            names = [name for name, _ in made.frame.ruled() if rng.random() < 0.9]
            if len(all_turns(made, names)) <= 14:
                found = best_plan(made, store, names, 2)
                self.assertEqual(found, plain_best(made, store, names, 2))
                self.assertEqual(plan_costs(made, store, found[0])[-1], found[1])
                self.assertEqual(plain_cost(planned(made, found[0]), store), found[1])
                two += len(found[0]) == 2
        self.assertGreater(two, 3)

    def test_unknown_name(self):
        made, store = case("a: n() :- o(x) * 1")
        for most in (0, 1, 2):
            for odd in ODD_VALUES + ["e", "zz", ("n",)]:
                with self.assertRaises(UnknownName) as caught:
                    best_plan(made, store, ["n", odd, "later"], most)
                self.assertIs(caught.exception.name, odd)

    def test_what_is_returned_can_be_changed(self):
        made, store = case("a: n() :- e(x y) * 1\nb: n() :- e(x y) * 1")
        best_plan(made, store, ["n"], 1)[0].clear()
        plan_costs(made, store, []).clear()
        self.assertEqual(best_plan(made, store, ["n"], 1), ([("join", "a", "b")], 3))


if __name__ == "__main__":
    unittest.main()

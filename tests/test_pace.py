"""Callers ask tens of thousands of times: a round of a few calls may take 20 milliseconds. Here it gets some more."""

import random
import time
import unittest

from tests.deedcases import some_deed, told_facts
from tests.plainlines import way_case
from tests.samples import steady_scales
from tests.turncases import some_turns, with_a_twin
from worthhouse.abstracts import rows_between, spreads
from worthhouse.costs import best_plan, plan_costs
from worthhouse.edits import changed, edited, kept_on, touched
from worthhouse.errors import BadTurn, TooMany
from worthhouse.frames import Frame
from worthhouse.house import House
from worthhouse.housetexts import read_house, write_house
from worthhouse.linechanges import lines_forth
from worthhouse.needs import losses, needed_rows, needs, wishes, worths_at
from worthhouse.papers import paper_of
from worthhouse.rounds import ruled_facts
from worthhouse.scales import CountScale
from worthhouse.stores import Store
from worthhouse.texts import read_program

MANY = 150
SECONDS_A_ROUND = 0.06


class Pace(unittest.TestCase):
    def rounds(self, seed, call):
        rng = random.Random(seed)
        scales = steady_scales()
        start = time.perf_counter()
        for k in range(MANY):
            program, store = way_case(rng, scales[k % 8], 3 + k % 2)
            facts = ruled_facts(program, store)
            try:
                call(rng, with_a_twin(rng, program), store, rng.choice(facts))
            except (BadTurn, TooMany):
                pass
        self.assertLess(time.perf_counter() - start, MANY * SECONDS_A_ROUND)

    def test_turns(self):
        def call(rng, program, store, fact):
            paper = paper_of(program, store, [fact])
            for turn in some_turns(rng, program, store)[:3]:
                plan_costs(program, store, [turn])
                lines_forth(program, store, turn, paper)
            best_plan(program, store, ["o"], 1)

        self.rounds(251, call)

    def test_edits(self):
        def call(rng, program, store, fact):
            paper = paper_of(program, store, [fact])
            deed = some_deed(rng, program, store)
            touched(program, store, deed)
            changed(program, store, deed)
            kept_on(*edited(program, store, deed), paper)

        self.rounds(252, call)

    def test_needs(self):
        def call(rng, program, store, fact):
            told = told_facts(program, store)
            worths_at(program, store, *rng.choice(told), fact)
            needed_rows(program, store, fact)
            rows_between(program, store, fact, "e")
            spreads(program, "e")
            deeds = [("raise", *rng.choice(told), rng.choice(program.scale.worths())) for _ in range(8)]
            wishes(program, store, deeds, fact, program.scale.one)
            needs(program, store, fact)
            losses(program, store, fact)

        self.rounds(253, call)

    def test_houses(self):
        def call(rng, program, store, fact):
            house = House(program, store)
            house.watch([fact])
            for _ in range(5):
                house.do(some_deed(rng, *house.now()))
                house.worth(fact)
            house.kept()
            read_house(program.frame, program.scale, write_house(house))

        self.rounds(254, call)

    def test_plans_of_very_many_uses(self):
        # Turned twice, such a rule has so many fillings that they cannot be gone through.
        frame = Frame(["k"], [("e", ("k", "k"))], [("p", ("k", "k"))])
        scale = CountScale(3)
        text = "a: p(x y) :- e(x y) * 1\nb: p(x z) :- p(x y), p(y w), p(w z), x != z * 1"
        names = [f"c{k}" for k in range(8)]
        rows = [("e", (one, other), "1") for k, one in enumerate(names) for other in names[k % 3::2]]
        store = Store(frame, scale, [(name, "k") for name in names], rows)
        start = time.perf_counter()
        best_plan(read_program(frame, scale, text), store, ["p"], 2)
        self.assertLess(time.perf_counter() - start, 3)


if __name__ == "__main__":
    unittest.main()

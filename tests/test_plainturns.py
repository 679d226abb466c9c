"""Turned programs and led lines, word by word, against a plain reckoning."""

import random
import unittest

from tests.plain import plain_uses
from tests.plainlines import many_cases, plain_lines, right_lines
from tests.plainturns import PlainTurn, Trees
from tests.samples import steady_scales, turning
from tests.turncases import FORMS, some_turns, with_a_twin
from worthhouse.compiling import store_over
from worthhouse.errors import BadTurn
from worthhouse.linechanges import lines_back, lines_forth
from worthhouse.rounds import ruled_facts
from worthhouse.turns import turned


class Plain(unittest.TestCase):
    def cases(self, seed, many, turns):
        rng = random.Random(seed)
        for program, store in many_cases(seed, steady_scales() + [turning()], many):
            program = with_a_twin(rng, program)
            found = some_turns(rng, program, store)
            for turn in found[:turns] + [turn for turn in found if turn[0] in ("unfold", "join")][:2]:
                try:
                    turned(program, turn)
                except BadTurn:
                    self.assertEqual(turn[0], "fold")
                    continue
                yield rng, program, store, turn

    def test_turned_programs(self):
        many = dict.fromkeys(FORMS, 0)
        for rng, program, store, turn in self.cases(261, 200, 8):
            behind = turned(program, turn)
            plain = PlainTurn(program, turn)
            self.assertEqual(behind.rules(), plain.rules, (program.rules(), turn))
            self.assertEqual(behind, plain.behind)
            many[turn[0]] += 1
            # A second turn meets made names.
            further = some_turns(rng, behind, store_over(behind.frame, store))[:2]
            for turn in further:
                try:
                    self.assertEqual(turned(behind, turn), PlainTurn(behind, turn).behind)
                except BadTurn:
                    self.assertEqual(turn[0], "fold")
        self.assertTrue(all(number > 5 for number in many.values()), many)

    def test_led_lines(self):
        many = dict.fromkeys(FORMS, 0)
        for rng, program, store, turn in self.cases(262, 110, 4):
            plain = PlainTurn(program, turn)
            over = store_over(plain.behind.frame, store)
            if len(plain_uses(program, store)) + len(plain_uses(plain.behind, over)) > 300:
                continue
            lines = right_lines(rng, program, store, 12)
            paper = (tuple(ruled_facts(program, store)), tuple(lines))
            trees = Trees(plain, store, over)
            expected = trees.all_forth([tree for _, _, tree in plain_lines(program, store, lines)[0]])
            facts, led = lines_forth(program, store, turn, paper)
            told, wrong = plain_lines(plain.behind, over, led)
            self.assertIsNone(wrong)
            self.assertEqual([tree for _, _, tree in told], expected, (program.rules(), turn, lines))
            many[turn[0]] += len(lines) > 0
            if turn[0] in ("unfold", "fold", "order", "part", "special"):
                self.assertEqual(lines_back(program, store, turn, (facts, led)), paper)
        self.assertTrue(all(number > 2 for number in many.values()), many)


if __name__ == "__main__":
    unittest.main()

import random
import unittest

from tests.housecases import some_houses
from tests.samples import ODD_VALUES
from tests.test_house import EDGE, TELL, house
from worthhouse.branches import come_of, elders, last_common, line_to
from worthhouse.edits import edited
from worthhouse.errors import NoState


def forked():
    """0 - 1 - 2 in main; 0 - 3 - 4 in b; 5 of 4 and 1; 6 of 2 and 5."""
    one = house()
    one.branch("b")
    one.do(TELL)
    one.branch("c")
    one.do(("tell", "t", (), "6"))
    one.go("b")
    one.do(EDGE)
    one.do(("clear", "e", ("b", "a")))
    one.merge("c")
    one.go("main")
    one.merge("b")
    return one


class Branches(unittest.TestCase):
    def test_told_in_full(self):
        one = forked()
        self.assertEqual([step[0] for step in one.log()], [0, 1, 0, 3, 4, 2])
        self.assertEqual([elders(one, k) for k in range(7)], [[0], [0, 1], [0, 1, 2], [0, 3], [0, 3, 4], [0, 1, 3, 4, 5], [0, 1, 2, 3, 4, 5, 6]])
        self.assertEqual([come_of(one, k) for k in range(7)], [[0, 1, 2, 3, 4, 5, 6], [1, 2, 5, 6], [2, 6], [3, 4, 5, 6], [4, 5, 6], [5, 6], [6]])
        self.assertEqual(last_common(one, 2, 4), 0)
        self.assertEqual(last_common(one, 2, 5), 1)
        self.assertEqual(last_common(one, 5, 2), 1)
        self.assertEqual(last_common(one, 6, 4), 4)
        self.assertEqual(last_common(one, 3, 3), 3)

    def test_lines_of_deeds(self):
        one = forked()
        log = [deed for _, deed in one.log()]
        self.assertEqual(line_to(one, 0), [])
        self.assertEqual(line_to(one, 2), log[:2])
        self.assertEqual(line_to(one, 5), log[2:5])
        # A merge stands for itself: the line goes by the first elders.
        self.assertEqual(line_to(one, 6), [log[0], log[1], ("merge", 5)])

    def test_against_a_plain_walk(self):
        rng = random.Random(201)
        merges = 0
        for one, plain, _ in some_houses(rng, 201, 40, 35):
            many = len(one)
            for number in range(many):
                self.assertEqual(elders(one, number), sorted(plain.elders(number)))
                self.assertEqual(come_of(one, number), [k for k in range(many) if number in plain.elders(k)])
                other = rng.randrange(many)
                self.assertEqual(last_common(one, number, other), plain.last_common(number, other))
                met, deeds = number, []
                while met:
                    met, deed = plain.log[met - 1]
                    deeds.insert(0, deed)
                self.assertEqual(line_to(one, number), deeds)
                if not any(deed[0] == "merge" for deed in deeds):
                    state = one.state(0)
                    for deed in deeds:
                        state = edited(*state, deed)
                    self.assertEqual(state, one.state(number))
                merges += any(deed[0] == "merge" for deed in deeds)
        self.assertGreater(merges, 10)

    def test_no_state(self):
        one = house()
        one.do(TELL)
        for odd in [value for value in ODD_VALUES if isinstance(value, bool) or value not in (0, 1)] + [2, -1]:
            calls = [
                lambda: elders(one, odd), lambda: come_of(one, odd), lambda: line_to(one, odd),
                lambda: last_common(one, odd, "later"), lambda: last_common(one, 1, odd),
            ]
            for call in calls:
                with self.assertRaises(NoState) as caught:
                    call()
                self.assertIs(caught.exception.number, odd)

    def test_what_is_returned_can_be_changed(self):
        one = forked()
        for call in (elders, come_of, line_to):
            call(one, 5).clear()
            self.assertNotEqual(call(one, 5), [])


if __name__ == "__main__":
    unittest.main()

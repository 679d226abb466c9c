import itertools
import unittest

from tests.samples import ODD_VALUES, families, lone, pairs, turning, yes_no
from worthhouse.errors import NotSteady, UnknownWorth
from worthhouse.resting import course_of, height, rest_of, steady, within
from worthhouse.scales import CostScale, CountScale, FewScale, LevelScale, MostScale, PairScale, TurnScale


def every_scale():
    return families() + pairs() + [yes_no(), lone(), turning()]


def plain_course(scale, c, many):
    row = [scale.nought]
    for _ in range(many):
        row.append(scale.plus(scale.one, scale.times(c, row[-1])))
    return row


class Courses(unittest.TestCase):
    def test_told_in_full(self):
        self.assertEqual(course_of(CountScale(3), "1"), (["0", "1", "2", "3"], 3))
        self.assertEqual(course_of(CountScale(3), "0"), (["0", "1"], 1))
        self.assertEqual(course_of(CountScale(3), "2"), (["0", "1", "3"], 2))
        self.assertEqual(course_of(TurnScale(4), "1"), (["0", "1", "2", "3"], 0))
        self.assertEqual(course_of(TurnScale(4), "2"), (["0", "1", "3"], 2))
        self.assertEqual(course_of(TurnScale(6), "3"), (["0", "1", "4"], 1))
        self.assertEqual(course_of(CostScale(2), "none"), (["none", "0"], 1))
        self.assertEqual(course_of(lone(), "w"), (["w"], 0))

    def test_rests_told_in_full(self):
        self.assertEqual(rest_of(CountScale(7), "1"), 7)
        self.assertEqual(rest_of(CountScale(7), "2"), 3)
        self.assertEqual(rest_of(CountScale(7), "0"), 1)
        self.assertEqual(rest_of(TurnScale(4), "2"), 2)
        self.assertIsNone(rest_of(TurnScale(4), "1"))
        self.assertIsNone(rest_of(TurnScale(6), "3"))
        self.assertEqual(rest_of(MostScale(2), "1"), 4)
        self.assertEqual(rest_of(lone(), "w"), 0)

    def test_each_worth_of_each_scale(self):
        for scale in every_scale():
            for c in scale.worths():
                row = plain_course(scale, c, 30)
                entries, start = course_of(scale, c)
                self.assertEqual(len(set(entries)), len(entries))
                self.assertEqual(row[: len(entries)], entries)
                self.assertEqual(row[len(entries)], entries[start])
                rests = [k for k in range(29) if row[k] == row[k + 1]]
                self.assertEqual(rest_of(scale, c), rests[0] if rests else None)

    def test_answer_belongs_to_the_caller(self):
        scale = CountScale(2)
        course_of(scale, "1")[0].append("9")
        self.assertEqual(course_of(scale, "1"), (["0", "1", "2"], 2))

    def test_unknown_worths(self):
        for odd in ODD_VALUES:
            for call in (course_of, rest_of):
                with self.assertRaises(UnknownWorth) as caught:
                    call(CountScale(2), odd)
                self.assertIs(caught.exception.name, odd)


class Steady(unittest.TestCase):
    def test_which_are(self):
        for scale in families():
            self.assertIs(steady(scale), not isinstance(scale, TurnScale))
        self.assertIs(steady(lone()), True)
        self.assertIs(steady(yes_no()), True)
        self.assertIs(steady(turning()), False)
        self.assertIs(steady(PairScale(CountScale(2), LevelScale(3))), True)
        self.assertIs(steady(PairScale(TurnScale(2), CountScale(2))), False)
        self.assertIs(steady(PairScale(CountScale(2), TurnScale(2))), False)

    def test_exactly_if_the_one_has_a_rest(self):
        for scale in every_scale():
            self.assertIs(steady(scale), rest_of(scale, scale.one) is not None)


class Within(unittest.TestCase):
    def test_told_in_full(self):
        self.assertIs(within(CountScale(3), "1", "3"), True)
        self.assertIs(within(CountScale(3), "3", "1"), False)
        self.assertIs(within(CountScale(3), "2", "2"), True)
        self.assertIs(within(CostScale(3), "3", "1"), True)
        self.assertIs(within(CostScale(3), "1", "3"), False)
        self.assertIs(within(CostScale(3), "none", "3"), True)
        self.assertIs(within(TurnScale(3), "2", "1"), True)

    def test_each_two_worths(self):
        for scale in every_scale():
            for a, b in itertools.product(scale.worths(), scale.worths()):
                sums = {scale.plus(a, c) for c in scale.worths()}
                self.assertIs(within(scale, a, b), b in sums)

    def test_an_order_just_in_steady_scales(self):
        for scale in every_scale():
            both = [
                (a, b)
                for a, b in itertools.combinations(scale.worths(), 2)
                if within(scale, a, b) and within(scale, b, a)
            ]
            self.assertEqual(both == [], steady(scale))

    def test_unknown_worths(self):
        for odd in ODD_VALUES:
            with self.assertRaises(UnknownWorth) as caught:
                within(CountScale(2), odd, "zzz")
            self.assertIs(caught.exception.name, odd)
            with self.assertRaises(UnknownWorth) as caught:
                within(CountScale(2), "1", odd)
            self.assertIs(caught.exception.name, odd)


def longest_climb(scale, worth):
    further = [b for b in scale.worths() if b != worth and within(scale, worth, b)]
    return max([1 + longest_climb(scale, b) for b in further], default=0)


class Heights(unittest.TestCase):
    def test_told_in_full(self):
        self.assertEqual(height(lone()), 0)
        self.assertEqual(height(yes_no()), 1)
        self.assertEqual(height(CountScale(7)), 7)
        self.assertEqual(height(LevelScale(4)), 4)
        self.assertEqual(height(CostScale(3)), 4)
        self.assertEqual(height(FewScale(0)), 1)
        self.assertEqual(height(MostScale(5)), 7)
        self.assertEqual(height(PairScale(CountScale(2), LevelScale(3))), 5)
        self.assertEqual(height(PairScale(lone(), lone())), 0)

    def test_longest_chain(self):
        for scale in every_scale():
            if steady(scale) and len(scale) <= 9:
                self.assertEqual(height(scale), max(longest_climb(scale, worth) for worth in scale.worths()))

    def test_not_steady(self):
        for scale in (TurnScale(2), turning(), PairScale(CountScale(1), TurnScale(3))):
            with self.assertRaises(NotSteady):
                height(scale)


if __name__ == "__main__":
    unittest.main()

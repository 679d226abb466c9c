import itertools
import unittest

from tests.samples import ODD_VALUES
from worthhouse.words import is_list, is_name, is_number, is_run, is_word, ways


class Words(unittest.TestCase):
    def test_odd_values_are_no_words(self):
        for odd in ODD_VALUES + [b"a", ["a"], ("a",), {"a": 1}, 2.5]:
            self.assertIs(is_word(odd), False)
            self.assertIs(is_name(odd), False)
        for odd in (None, 3, [], ["a"], ("a", "b"), {"a": 1}, b"ab"):
            self.assertIs(is_run(odd), False)

    def test_lengths(self):
        for make in (is_word, is_run, is_name):
            self.assertIs(make("a" * 12), True)
            self.assertIs(make("a" * 13), False)
            self.assertIs(make(""), False)
        self.assertIs(is_run("0"), True)
        self.assertIs(is_word("0"), False)

    def test_made_names(self):
        for name in ("q.0", "q.9", "q.10", "q.999", "a1b.100", "a" * 12 + ".5"):
            self.assertIs(is_name(name), True)
            self.assertIs(is_word(name), False)
        for name in ("q.", "q.00", "q.01", "q.1000", "q.a", "q..1", "q.1.2", ".1", "1.1", "q.-1", "q 1", "q.1 "):
            self.assertIs(is_name(name), False)

    def test_lists_and_numbers(self):
        self.assertEqual([is_list(value) for value in ([], (), {}, "", None)], [True, True, False, False, False])
        self.assertEqual([is_number(value) for value in (0, -1, True, False, "1", None)], [True, True] + [False] * 4)

    def test_ways(self):
        for lists in ([], [["a", "b"]], [["a"], [], ["b"]], [["a", "b"], ["c"], ["d", "e", "f"]]):
            self.assertEqual(ways(lists), list(itertools.product(*lists)))


if __name__ == "__main__":
    unittest.main()

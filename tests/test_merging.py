import random
import unittest

from tests.deedcases import some_deed
from tests.plainhouse import plain_merged
from tests.plainlines import many_cases
from tests.samples import steady_scales, turning
from worthhouse.edits import deeds_between, edited
from worthhouse.errors import Clash
from worthhouse.frames import Frame, made_frame
from worthhouse.merging import changes, clashes, in_order, merged
from worthhouse.rules import Program, made_program
from worthhouse.scales import CountScale
from worthhouse.stores import Store
from worthhouse.texts import read_program, read_store

COUNTS = CountScale(7)
FRAME = Frame(["k"], [("e", ("k",)), ("t", ())], [("n", ())])


def state(rules, rows):
    program = read_program(FRAME, COUNTS, rules)
    return in_order(program, read_store(FRAME, COUNTS, "a of k\nb of k" + ("\n" + rows if rows else "")))


class InOrder(unittest.TestCase):
    def test_told_in_full(self):
        program, store = state("b: n() * 1\na: n() * 2\nab: n() * 1", "t() = 1\ne(b) = 0\ne(a) = 2")
        self.assertEqual(program.labels(), ["a", "ab", "b"])
        self.assertEqual(store.rows(), [("e", ("a",), "2"), ("e", ("b",), "0"), ("t", (), "1")])
        self.assertEqual(store.things(), [("a", "k"), ("b", "k")])
        self.assertEqual(in_order(program, store), (program, store))
        self.assertIsInstance(in_order(program, store), tuple)

    def test_made_names_are_compared_as_strings(self):
        frame = made_frame(["k"], [("e.10", ()), ("e.2", ()), ("e", ())], [("n", ())])
        rules = [(label, ("n", ()), (), (), "1") for label in ("w.2", "w.10", "w", "v.9")]
        store = Store(frame, COUNTS, [], [("e.2", (), "1"), ("e", (), "2"), ("e.10", (), "3")])
        program, store = in_order(made_program(frame, COUNTS, rules), store)
        self.assertEqual(program.labels(), ["v.9", "w", "w.10", "w.2"])
        self.assertEqual(store.rows(), [("e", (), "2"), ("e.10", (), "3"), ("e.2", (), "1")])

    def test_nothing_else_is_changed(self):
        for program, store in many_cases(211, steady_scales(), 30):
            ordered, ordered_store = in_order(program, store)
            self.assertEqual(ordered.rules(), sorted(program.rules(), key=lambda rule: rule[0]))
            self.assertEqual(ordered_store.rows(), sorted(store.rows()))
            self.assertEqual(ordered_store, store)


class Changes(unittest.TestCase):
    def test_told_in_full(self):
        elder = state("a: n() * 1\nb: n() * 2\nd: n() * 0", "t() = 1\ne(b) = 0")
        newer = state("b: n() * 3\nc: n() :- t() * 1\nd: n() * 0", "e(a) = 2\nt() = 2")
        rules, others = elder[0].rules(), newer[0].rules()
        self.assertEqual(changes(elder, newer), [
            ("row", "e", ("a",), None, "2"), ("row", "e", ("b",), "0", None), ("row", "t", (), "1", "2"),
            ("rule", "a", rules[0], None), ("rule", "b", rules[1], others[0]), ("rule", "c", None, others[1]),
        ])
        self.assertEqual(changes(elder, elder), [])

    def test_against_deeds_between(self):
        rng = random.Random(212)
        for program, store in many_cases(212, steady_scales() + [turning()], 60):
            elder = newer = in_order(program, store)
            for _ in range(3):
                deed = some_deed(rng, *newer)
                newer = newer if deed is None else edited(*newer, deed)
            found = changes(elder, newer)
            self.assertEqual(changes(newer, elder), [one[:-2] + (one[-1], one[-2]) for one in found])
            deeds = deeds_between(*elder, *newer)
            spots = {("rule", deed[1][0] if deed[0] == "rule" else deed[1]) if "rule" in deed[0] else ("row",) + deed[1:3] for deed in deeds}
            self.assertEqual({one[:-2] for one in found}, spots)
            self.assertEqual(len(found), len(deeds))
            self.assertEqual([one[:-2] for one in found], sorted(one[:-2] for one in found))


class Merged(unittest.TestCase):
    def check(self, elder, one, other, expected):
        for first, second in ((one, other), (other, one)):
            self.assertEqual(clashes(elder, first, second), [])
            found = merged(elder, first, second)
            self.assertEqual(found, expected)
            self.assertEqual((found[0].labels(), found[1].rows()), (expected[0].labels(), expected[1].rows()))

    def test_row_by_row_and_label_by_label(self):
        elder = state("a: n() * 1\nb: n() * 2", "t() = 1\ne(b) = 0")
        # A rule on the one side, a row on the other one.
        self.check(elder, state("a: n() * 1\nb: n() * 3", "t() = 1\ne(b) = 0"), state("a: n() * 1\nb: n() * 2", "t() = 2\ne(b) = 0"), state("a: n() * 1\nb: n() * 3", "t() = 2\ne(b) = 0"))
        # Both sides did the same.
        both = state("b: n() * 2\nc: n() * 1", "e(a) = 3")
        self.check(elder, both, both, both)
        self.check(elder, both, elder, both)
        self.check(elder, elder, elder, elder)
        # A row and a rule are taken away on one side, others are put in.
        self.check(elder, state("b: n() * 2", "t() = 1"), state("a: n() * 1\nb: n() * 2\nc: n() * 1", "e(a) = 1\nt() = 1\ne(b) = 0"), state("b: n() * 2\nc: n() * 1", "e(a) = 1\nt() = 1"))

    def test_clashes(self):
        elder = state("a: n() * 1\nb: n() * 2", "t() = 1\ne(b) = 0")
        one = state("a: n() * 2\nc: n() * 1", "t() = 2\ne(a) = 1")
        other = state("a: n() * 3\nb: n() * 4\nc: n() * 2", "e(b) = 1\ne(a) = 2")
        spots = [("row", "e", ("a",)), ("row", "e", ("b",)), ("row", "t", ()), ("rule", "a"), ("rule", "b"), ("rule", "c")]
        for first, second in ((one, other), (other, one)):
            self.assertEqual(clashes(elder, first, second), spots)
            with self.assertRaises(Clash) as caught:
                merged(elder, first, second)
            self.assertEqual(caught.exception.spots, tuple(spots))

    def test_a_row_of_nought_is_not_no_row(self):
        elder = state("", "t() = 1")
        self.assertEqual(clashes(elder, state("", ""), state("", "t() = 0")), [("row", "t", ())])

    def test_against_a_plain_reckoning(self):
        rng = random.Random(213)
        clashed = whole = 0
        for program, store in many_cases(213, steady_scales() + [turning()], 150):
            elder = in_order(program, store)
            sides = []
            for _ in range(2):
                side = elder
                for _ in range(rng.randint(0, 3)):
                    deed = some_deed(rng, *side)
                    side = side if deed is None else edited(*side, deed)
                sides.append(side)

            def parts(one):
                found = {("row",) + row[:2]: row[2] for row in one[1].rows()}
                found.update({("rule", rule[0]): rule for rule in one[0].rules()})
                return found

            spots, left = plain_merged(parts(elder), *[parts(side) for side in sides])
            self.assertEqual(clashes(elder, *sides), spots)
            self.assertEqual(clashes(elder, *sides[::-1]), spots)
            if spots:
                clashed += 1
            else:
                found = merged(elder, *sides)
                self.assertEqual(parts(found), left)
                self.assertEqual(found, merged(elder, *sides[::-1]))
                self.assertEqual(in_order(*found), found)
                self.assertEqual(found[1].rows(), sorted(found[1].rows()))
                whole += 1
        self.assertGreater(clashed, 8)
        self.assertGreater(whole, 50)

    def test_what_is_returned_can_be_changed(self):
        elder, newer = state("a: n() * 1", ""), state("", "t() = 1")
        for call in (lambda: changes(elder, newer), lambda: clashes(state("", ""), elder, state("a: n() * 2", ""))):
            call().clear()
            self.assertNotEqual(call(), [])
        self.assertEqual(Program(FRAME, COUNTS, []), newer[0])


if __name__ == "__main__":
    unittest.main()

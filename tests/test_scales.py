import itertools
import random
import unittest

from tests.samples import ODD_VALUES, families, lone, pairs, turning, yes_no
from worthhouse.errors import BadScale, UnknownWorth
from worthhouse.scales import (
    CostScale,
    CountScale,
    FewScale,
    LevelScale,
    MostScale,
    PairScale,
    Scale,
    TableScale,
    TurnScale,
    first_fault,
)

NUMBERED = {
    CountScale: (1, 7),
    TurnScale: (2, 8),
    CostScale: (0, 6),
    LevelScale: (1, 7),
    FewScale: (0, 6),
    MostScale: (0, 5),
}


def parts(many):
    """The parts of a table scale with so many worths: sums and products are the later and the earlier one."""
    worths = ["w" + str(k) for k in range(many)]
    sums = [[max(a, b) for b in worths] for a in worths]
    products = [[min(a, b) for b in worths] for a in worths]
    return worths, sums, products, worths[0], worths[-1]


def made(worths, sums, products, nought, one):
    return TableScale(worths, sums, products, nought=nought, one=one)


class Told(unittest.TestCase):
    def test_by_hand(self):
        scale = yes_no()
        self.assertEqual(scale.worths(), ["no", "yes"])
        self.assertEqual((scale.nought, scale.one), ("no", "yes"))
        self.assertEqual(scale.plus("no", "yes"), "yes")
        self.assertEqual(scale.times("no", "yes"), "no")
        self.assertIsInstance(scale, Scale)

    def test_entries_stand_by_row_then_column(self):
        # The product here is not turned, so rows and columns are told from one another.
        scale = TableScale(["a", "b"], [["a", "b"], ["a", "b"]], [["b", "b"], ["a", "a"]], nought="a", one="a")
        self.assertEqual([scale.plus(a, b) for a in "ab" for b in "ab"], ["a", "b", "a", "b"])
        self.assertEqual([scale.times(a, b) for a in "ab" for b in "ab"], ["b", "b", "a", "a"])
        self.assertEqual(scale.one, "a")

    def test_lists_may_be_tuples(self):
        worths, sums, products, nought, one = parts(3)
        scale = made(tuple(worths), tuple(map(tuple, sums)), tuple(map(tuple, products)), nought, one)
        self.assertEqual(scale, made(worths, sums, products, nought, one))

    def test_how_many_worths(self):
        for many in range(1, 9):
            self.assertEqual(len(made(*parts(many))), many)
        for many in (9, 10, 12):
            with self.assertRaises(BadScale):
                made(*parts(many))
        with self.assertRaises(BadScale):
            made([], [], [], "a", "a")

    def test_which_strings_are_worths(self):
        for good in ("a", "0", "9z", "z" * 12, "0" * 12, "none"):
            scale = made([good], [[good]], [[good]], good, good)
            self.assertEqual(scale.worths(), [good])
        for bad in ("", "a" * 13, "A", "a b", "a/b", "a.0", "a_b", "\u00e9", "\u0663", "\u00b2", "a\n", "-1", "@a"):
            with self.assertRaises(BadScale, msg=bad):
                made([bad], [[bad]], [[bad]], bad, bad)

    def test_worth_twice(self):
        with self.assertRaises(BadScale):
            made(["a", "a"], [["a", "a"]] * 2, [["a", "a"]] * 2, "a", "a")

    def test_odd_values_in_place_of_each_part(self):
        for odd in ODD_VALUES + [2.5, b"w0", {"w0": 1}, range(2), object()]:
            for place in range(5):
                row = list(parts(2))
                row[place] = odd
                with self.assertRaises(BadScale, msg=(place, odd)):
                    made(*row)
            for place in (0, 1, 2):
                row = list(parts(2))
                row[place] = [row[place][0], odd]
                with self.assertRaises(BadScale, msg=(place, odd)):
                    made(*row)
            for place in (1, 2):
                row = list(parts(2))
                row[place][1][0] = odd
                with self.assertRaises(BadScale, msg=(place, odd)):
                    made(*row)

    def test_what_only_looks_like_lists(self):
        worths, sums, products, nought, one = parts(2)
        for place, value in [
            (0, {"w0": 0, "w1": 1}),
            (0, "ab"),
            (1, {0: sums[0], 1: sums[1]}),
            (1, ["ab", "ab"]),
            (2, [{"w0": 1, "w1": 1}, products[1]]),
        ]:
            row = [worths, sums, products, nought, one]
            row[place] = value
            with self.assertRaises(BadScale):
                made(*row)

    def test_lists_left_out_put_in_or_exchanged(self):
        for place in (1, 2):
            for change in (
                lambda rows: rows[:-1],
                lambda rows: rows + [rows[0]],
                lambda rows: [rows[0][:-1]] + rows[1:],
                lambda rows: rows[:-1] + [rows[-1] + [rows[0][0]]],
                lambda rows: [],
            ):
                row = list(parts(3))
                row[place] = change(row[place])
                with self.assertRaises(BadScale):
                    made(*row)
        worths, sums, products, nought, one = parts(3)
        with self.assertRaises(BadScale):
            made(worths[:-1], sums, products, nought, nought)
        with self.assertRaises(BadScale):
            made(sums, worths, products, nought, one)
        with self.assertRaises(BadScale):
            made(worths, sums, products, worths, one)

    def test_nought_and_one_are_passed_by_keyword_alone(self):
        worths, sums, products, nought, one = parts(2)
        with self.assertRaises(TypeError):
            TableScale(worths, sums, products, nought, one)

    def test_nothing_passed_is_kept(self):
        worths, sums, products, nought, one = parts(3)
        scale = made(worths, sums, products, nought, one)
        twin = made(*parts(3))
        worths[0] = "zz"
        sums[0][0] = "zz"
        products[1] = []
        products.clear()
        self.assertEqual(scale, twin)
        self.assertEqual(scale.plus("w0", "w0"), "w0")
        self.assertEqual(scale.worths(), ["w0", "w1", "w2"])

    def test_nothing_passed_is_changed(self):
        row = parts(3)
        made(*row)
        self.assertEqual(row, parts(3))


class Families(unittest.TestCase):
    def test_bounds(self):
        for family, (least, most) in NUMBERED.items():
            for top in range(least, most + 1):
                self.assertIsInstance(family(top), Scale)
            for top in (least - 1, most + 1, -1, 100, True, False, None, "3", "", 2.0, [3], (3,), {3: 3}):
                with self.assertRaises(BadScale, msg=(family, top)):
                    family(top)

    def agree(self, scale, worths, plus, times, nought, one):
        self.assertEqual(scale.worths(), worths)
        self.assertEqual((scale.nought, scale.one), (nought, one))
        for a in worths:
            for b in worths:
                self.assertEqual(scale.plus(a, b), plus(a, b), (a, b))
                self.assertEqual(scale.times(a, b), times(a, b), (a, b))

    def test_counts(self):
        for top in range(1, 8):
            worths = [str(k) for k in range(top + 1)]
            self.agree(
                CountScale(top),
                worths,
                lambda a, b: worths[min(top, int(a) + int(b))],
                lambda a, b: worths[min(top, int(a) * int(b))],
                "0",
                "1",
            )

    def test_turns(self):
        for size in range(2, 9):
            self.agree(
                TurnScale(size),
                [str(k) for k in range(size)],
                lambda a, b: str((int(a) + int(b)) % size),
                lambda a, b: str((int(a) * int(b)) % size),
                "0",
                "1",
            )

    def test_costs_and_few(self):
        def lesser(a, b):
            numbers = [int(w) for w in (a, b) if w != "none"]
            return str(min(numbers)) if numbers else "none"

        for top in range(0, 7):
            numbers = [str(k) for k in range(top + 1)]

            def added(a, b):
                return "none" if "none" in (a, b) else str(min(top, int(a) + int(b)))

            self.agree(CostScale(top), numbers + ["none"], lesser, added, "none", "0")
            self.agree(FewScale(top), ["none"] + numbers, lesser, added, "none", "0")

    def test_levels(self):
        for top in range(1, 8):
            self.agree(
                LevelScale(top),
                [str(k) for k in range(top + 1)],
                lambda a, b: a if int(a) >= int(b) else b,
                lambda a, b: b if int(a) >= int(b) else a,
                "0",
                str(top),
            )

    def test_most(self):
        for top in range(0, 6):
            worths = ["none"] + [str(k) for k in range(top + 1)] + ["many"]

            def added(a, b):
                if a == "none" or b == "none":
                    return "none"
                if a == "many" or b == "many" or int(a) + int(b) > top:
                    return "many"
                return str(int(a) + int(b))

            self.agree(
                MostScale(top), worths, lambda a, b: worths[max(worths.index(a), worths.index(b))], added, "none", "0"
            )

    def test_some_told_in_full(self):
        self.assertEqual(CostScale(0).worths(), ["0", "none"])
        self.assertEqual(MostScale(0).worths(), ["none", "0", "many"])
        self.assertEqual(MostScale(0).times("0", "0"), "0")
        self.assertEqual(MostScale(1).times("1", "1"), "many")
        self.assertEqual(MostScale(1).times("many", "none"), "none")
        self.assertEqual(MostScale(5).plus("3", "many"), "many")
        self.assertEqual(CostScale(6).times("5", "4"), "6")
        self.assertEqual(FewScale(6).plus("none", "4"), "4")


class Pairs(unittest.TestCase):
    def test_side_by_side(self):
        left, right = CountScale(2), CostScale(1)
        scale = PairScale(left, right)
        self.assertEqual(
            scale.worths(), ["0/0", "0/1", "0/none", "1/0", "1/1", "1/none", "2/0", "2/1", "2/none"]
        )
        self.assertEqual((scale.nought, scale.one), ("0/none", "1/0"))
        self.assertEqual((scale.left, scale.right), (left, right))
        for a, b, c, d in itertools.product(left.worths(), right.worths(), left.worths(), right.worths()):
            self.assertEqual(scale.plus(a + "/" + b, c + "/" + d), left.plus(a, c) + "/" + right.plus(b, d))
            self.assertEqual(scale.times(a + "/" + b, c + "/" + d), left.times(a, c) + "/" + right.times(b, d))

    def test_at_most_twelve(self):
        self.assertEqual(len(PairScale(CountScale(2), LevelScale(3))), 12)
        self.assertEqual(len(PairScale(LevelScale(5), CountScale(1))), 12)
        self.assertEqual(len(PairScale(lone(), CountScale(7))), 8)
        for left, right in [(CountScale(1), CountScale(6)), (CountScale(3), CountScale(3)), (CostScale(6), yes_no())]:
            with self.assertRaises(BadScale):
                PairScale(left, right)


class EveryScale(unittest.TestCase):
    def test_what_each_has(self):
        for scale in families() + pairs() + [yes_no(), lone()]:
            self.assertIsInstance(scale, Scale)
            worths = scale.worths()
            self.assertEqual(len(scale), len(worths))
            self.assertTrue(all(worth in scale for worth in worths))
            self.assertIn(scale.nought, worths)
            self.assertIn(scale.one, worths)

    def test_odd_values_are_no_worths(self):
        for scale in (CountScale(3), pairs()[0], lone()):
            for odd in ODD_VALUES + ["w ", "4", "0 ", "1/", b"1"]:
                if odd in (["0"],) or odd == ("0",):
                    continue
                self.assertIs(odd in scale, False)
                for call in (scale.plus, scale.times):
                    with self.assertRaises(UnknownWorth) as caught:
                        call(odd, "zzz")
                    self.assertIs(caught.exception.name, odd)
                    with self.assertRaises(UnknownWorth) as caught:
                        call(scale.one, odd)
                    self.assertIs(caught.exception.name, odd)
                for row in ([odd], [scale.one, odd, "zzz"], (odd, None)):
                    with self.assertRaises(UnknownWorth) as caught:
                        scale.total(row)
                    self.assertIs(caught.exception.name, odd)

    def test_lists_and_tuples_are_no_worths(self):
        for odd in (["0"], ("0",), {"0": 1}):
            self.assertIs(odd in CountScale(1), False)
            with self.assertRaises(UnknownWorth):
                CountScale(1).plus("0", odd)

    def test_total(self):
        self.assertEqual(CountScale(7).total(["1", "2", "3"]), "6")
        self.assertEqual(CountScale(7).total(("1", "2")), "3")
        self.assertEqual(CountScale(7).total(["4"]), "4")
        self.assertEqual(CostScale(3).total([]), "none")
        self.assertEqual(CostScale(3).total(()), "none")

    def test_total_goes_from_the_first_one_on(self):
        # Here nought + b is a, and sums are not joined: (b + b) + b is a, b + (b + b) is b.
        scale = TableScale(["a", "b"], [["a", "a"], ["b", "a"]], [["a", "a"], ["a", "b"]], nought="a", one="b")
        self.assertEqual(scale.total(["b"]), "b")
        self.assertEqual(scale.total(["b", "b", "b"]), "a")
        self.assertEqual(scale.total(["b", "a", "a"]), "b")

    def test_worths_belong_to_the_caller(self):
        scale = CountScale(2)
        scale.worths().append("9")
        self.assertEqual(scale.worths(), ["0", "1", "2"])
        row = ["1", "1"]
        scale.total(row)
        self.assertEqual(row, ["1", "1"])

    def test_equal_whatever_made_by(self):
        told = TableScale(["0", "1"], [["0", "1"], ["1", "1"]], [["0", "0"], ["0", "1"]], nought="0", one="1")
        self.assertTrue(CountScale(1) == LevelScale(1) == told)
        self.assertFalse(CountScale(1) != LevelScale(1))
        self.assertTrue(PairScale(CountScale(1), CountScale(1)) == PairScale(LevelScale(1), told))

    def test_unlike(self):
        self.assertFalse(CountScale(2) == LevelScale(2))
        self.assertFalse(CountScale(2) == CountScale(3))
        self.assertFalse(TurnScale(2) == CountScale(1))
        self.assertFalse(CostScale(2) == FewScale(2))
        for other in ODD_VALUES + [["0", "1"], object()]:
            self.assertIs(CountScale(1) == other, False)

    def test_each_part_counts_for_equality(self):
        worths, sums, products, nought, one = parts(2)
        scale = made(worths, sums, products, nought, one)
        self.assertFalse(scale == made(worths, sums, products, one, one))
        self.assertFalse(scale == made(worths, sums, products, nought, nought))
        self.assertFalse(scale == made(worths, products, products, nought, one))
        self.assertFalse(scale == made(worths, sums, sums, nought, one))
        turned = made(["w1", "w0"], [row[::-1] for row in sums[::-1]], [row[::-1] for row in products[::-1]], "w0", "w1")
        self.assertEqual(turned.plus("w0", "w1"), "w1")
        self.assertFalse(scale == turned)


def plainly_first_fault(scale):
    """The words of S1.5, one after the other, in another way than the package does it."""
    p, t, ws = scale.plus, scale.times, scale.worths()
    triples = list(itertools.product(ws, ws, ws))
    pairs_of = list(itertools.product(ws, ws))
    single = [(w,) for w in ws]
    found = [("sum turned", m) for m in pairs_of if p(m[0], m[1]) != p(m[1], m[0])][:1]
    found += [("sum joined", m) for m in triples if p(p(m[0], m[1]), m[2]) != p(m[0], p(m[1], m[2]))][:1]
    found += [("nought", m) for m in single if p(m[0], scale.nought) != m[0]][:1]
    found += [("product turned", m) for m in pairs_of if t(m[0], m[1]) != t(m[1], m[0])][:1]
    found += [("product joined", m) for m in triples if t(t(m[0], m[1]), m[2]) != t(m[0], t(m[1], m[2]))][:1]
    found += [("one", m) for m in single if t(m[0], scale.one) != m[0]][:1]
    found += [("spread", m) for m in triples if t(m[0], p(m[1], m[2])) != p(t(m[0], m[1]), t(m[0], m[2]))][:1]
    found += [("gone", m) for m in single if t(m[0], scale.nought) != scale.nought][:1]
    return found[0] if found else None


class Lawful(unittest.TestCase):
    def test_families_and_pairs(self):
        for scale in families() + pairs() + [yes_no(), lone(), turning()]:
            self.assertIsNone(first_fault(scale))

    def faulty(self, sums, products, nought="0", one="1"):
        worths = ["0", "1", "2"][: len(sums)]
        return first_fault(TableScale(worths, [list(row) for row in sums], [list(row) for row in products], nought=nought, one=one))

    def test_each_word(self):
        good_sums, good_products = ["012", "112", "222"], ["000", "011", "012"]
        self.assertIsNone(self.faulty(good_sums, good_products, one="2"))
        self.assertEqual(self.faulty(["012", "112", "212"], good_products, one="2"), ("sum turned", ("1", "2")))
        self.assertEqual(self.faulty(["00", "01"][::-1], ["00", "01"]), ("sum turned", ("0", "1")))
        self.assertEqual(self.faulty(["10", "00"], ["00", "01"]), ("sum joined", ("0", "0", "1")))
        self.assertEqual(self.faulty(["00", "01"], ["00", "01"]), ("nought", ("1",)))
        self.assertEqual(self.faulty(good_sums, ["000", "011", "002"], one="2"), ("product turned", ("1", "2")))
        self.assertEqual(self.faulty(["01", "11"], ["10", "00"]), ("product joined", ("0", "0", "1")))
        self.assertEqual(self.faulty(["01", "11"], ["00", "00"]), ("one", ("1",)))
        self.assertEqual(self.faulty(["01", "10"], ["01", "11"], one="0"), ("spread", ("1", "0", "0")))
        self.assertEqual(self.faulty(["01", "11"], ["01", "11"], one="0"), ("gone", ("1",)))

    def test_against_a_plain_search(self):
        rng = random.Random(5)
        words = set()
        for _ in range(800):
            many = rng.randint(1, 3)
            worths = ["a", "b", "c"][:many]
            if rng.random() < 0.5:
                worths.reverse()
            squares = []
            for _ in range(2):
                square = [[rng.choice(worths) for _ in worths] for _ in worths]
                if rng.random() < 0.8:
                    square = [[square[min(i, j)][max(i, j)] for j in range(many)] for i in range(many)]
                squares.append(square)
            scale = TableScale(worths, squares[0], squares[1], nought=rng.choice(worths), one=rng.choice(worths))
            fault = first_fault(scale)
            self.assertEqual(fault, plainly_first_fault(scale))
            words.add(fault if fault is None else fault[0])
        self.assertGreater(len(words), 5)

    def test_changed_families(self):
        rng = random.Random(6)
        words = set()
        for scale in families() + pairs():
            worths = scale.worths()
            if len(worths) > 8 or "/" in worths[0]:
                continue
            for _ in range(6):
                sums = [[scale.plus(a, b) for b in worths] for a in worths]
                products = [[scale.times(a, b) for b in worths] for a in worths]
                square = rng.choice([sums, products])
                i, j = rng.randrange(len(worths)), rng.randrange(len(worths))
                square[i][j] = square[j][i] = rng.choice(worths)
                changed = TableScale(worths, sums, products, nought=scale.nought, one=scale.one)
                fault = first_fault(changed)
                self.assertEqual(fault, plainly_first_fault(changed))
                words.add(fault if fault is None else fault[0])
        self.assertGreater(len(words), 4)


if __name__ == "__main__":
    unittest.main()

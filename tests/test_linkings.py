import itertools
import random
import time
import unittest

from tests.samples import ODD_VALUES, families, lone, pairs, small_scales, turning, yes_no
from worthhouse.errors import BadBlocks, NotLinked, TooMany, UnknownWorth
from worthhouse.linkings import (
    all_linkings,
    check_linking,
    joined_linking,
    kernel,
    least_linking,
    met,
    parting,
    quotient,
    to_quotient,
)
from worthhouse.resting import steady
from worthhouse.scalemaps import ScaleMap, all_maps
from worthhouse.scales import (
    CostScale,
    CountScale,
    FewScale,
    LevelScale,
    MostScale,
    PairScale,
    Scale,
    TableScale,
    TurnScale,
    first_fault,
)


def in_form(scale, blocks):
    order = scale.worths().index
    return sorted([sorted(block, key=order) for block in blocks], key=lambda block: order(block[0]))


def all_partings(worths):
    """All partings of a list into blocks, in any order."""
    if not worths:
        return [[]]
    found = []
    for blocks in all_partings(worths[1:]):
        found.append([[worths[0]]] + blocks)
        for k in range(len(blocks)):
            found.append(blocks[:k] + [[worths[0]] + blocks[k]] + blocks[k + 1 :])
    return found


def block_of(blocks, worth):
    return [k for k, block in enumerate(blocks) if worth in block][0]


def first_fault_of(scale, blocks):
    stands = {worth: k for k, block in enumerate(blocks) for worth in block}
    for part, fold in [("sum", scale.plus), ("product", scale.times)]:
        for a, b, c in itertools.product(scale.worths(), repeat=3):
            if stands[a] == stands[b] and stands[fold(a, c)] != stands[fold(b, c)]:
                return (part, (a, b, c))
    return None


LOOKED_THROUGH = []


def plain_linkings(scale):
    """What look_through finds; each scale is looked at once, as this takes long."""
    for other, blocks in LOOKED_THROUGH:
        if other == scale:
            return blocks
    LOOKED_THROUGH.append((scale, look_through(scale)))
    return LOOKED_THROUGH[-1][1]


def look_through(scale):
    """All linkings in the order of S1.11."""
    places = {worth: k for k, worth in enumerate(scale.worths())}
    found = [in_form(scale, blocks) for blocks in all_partings(scale.worths()) if not first_fault_of(scale, blocks)]

    def written(blocks):
        return [places[blocks[block_of(blocks, worth)][0]] for worth in scale.worths()]

    return sorted(found, key=lambda blocks: (-len(blocks), written(blocks)))


def lies_in(finer, coarser):
    return all(any(set(block) <= set(other) for other in coarser) for block in finer)


def many_linked():
    """A lawful scale of eight worths nearly all of whose sums and products are one worth: it has many linkings."""
    worths = ["0", "1", "z", "a", "b", "c", "d", "e"]
    sums = [[b if a == "0" else a if b == "0" else "z" for b in worths] for a in worths]
    products = [["0" if "0" in (a, b) else b if a == "1" else a if b == "1" else "z" for b in worths] for a in worths]
    return TableScale(worths, sums, products, nought="0", one="1")


def eight_worths():
    """Scales of eight worths, some with few linkings and some with many."""
    found = [scale for scale in families() if len(scale) == 8]
    found += [PairScale(CountScale(1), LevelScale(3)), PairScale(TurnScale(2), TurnScale(4)), PairScale(CostScale(2), yes_no())]
    found += [pairs()[2], many_linked()]
    return [scale for scale in found if len(scale) == 8]


class Checked(unittest.TestCase):
    def test_linkings_in_any_order(self):
        self.assertIsNone(check_linking(CountScale(3), [["0"], ["1"], ["2"], ["3"]]))
        self.assertIsNone(check_linking(CountScale(3), [["3", "2"], ["1"], ["0"]]))
        self.assertIsNone(check_linking(CountScale(3), (("1", "3", "2"), ("0",))))
        self.assertIsNone(check_linking(CountScale(3), [["2", "0", "3", "1"]]))
        self.assertIsNone(check_linking(lone(), [["w"]]))

    def test_no_list_of_lists(self):
        for blocks in (None, 3, True, "ab", {"0": ["0"]}, {}, ["0", "1"], [["0"], "1"], [["0"], {"1": 1}], [["0"], None]):
            with self.assertRaises(BadBlocks, msg=blocks):
                check_linking(CountScale(1), blocks)
        # The form is looked at ahead of the worths.
        with self.assertRaises(BadBlocks):
            check_linking(CountScale(1), [["zzz"], None])

    def test_unknown_worths(self):
        for odd in ODD_VALUES:
            with self.assertRaises(UnknownWorth) as caught:
                check_linking(CountScale(1), [["0", odd], ["zzz"]])
            self.assertIs(caught.exception.name, odd)
        # The worths are looked at ahead of whether each stands once.
        with self.assertRaises(UnknownWorth) as caught:
            check_linking(CountScale(1), [[], ["0", "0"], ["7"]])
        self.assertEqual(caught.exception.name, "7")

    def test_each_worth_once(self):
        for blocks in ([], [["0"]], [["0", "1"], []], [["0", "0", "1"]], [["0", "1"], ["1"]], [["0"], ["0"]], [["1", "1"]]):
            with self.assertRaises(BadBlocks, msg=blocks):
                check_linking(CountScale(1), blocks)

    def test_not_linked(self):
        with self.assertRaises(NotLinked) as caught:
            check_linking(CountScale(3), [["0", "3"], ["1"], ["2"]])
        self.assertEqual((caught.exception.part, caught.exception.members), ("sum", ("0", "3", "1")))
        with self.assertRaises(NotLinked) as caught:
            check_linking(CostScale(2), [["0", "1"], ["2", "none"]])
        self.assertEqual((caught.exception.part, caught.exception.members), ("product", ("0", "1", "1")))

    def test_products_alone(self):
        # Sums keep the blocks, as the order of levels does; 1 and 1 are 2 as costs.
        with self.assertRaises(NotLinked) as caught:
            check_linking(CostScale(2), [["0", "1"], ["2"], ["none"]])
        self.assertEqual((caught.exception.part, caught.exception.members), ("product", ("0", "1", "1")))

    def test_first_fault_of_all_partings(self):
        for scale in small_scales():
            for blocks in all_partings(scale.worths()):
                fault = first_fault_of(scale, blocks)
                if fault is not None:
                    with self.assertRaises(NotLinked) as caught:
                        check_linking(scale, blocks)
                    self.assertEqual((caught.exception.part, caught.exception.members), fault)
                else:
                    self.assertIsNone(check_linking(scale, blocks))

    def test_nothing_is_changed(self):
        blocks = [["3", "2"], ["1"], ["0"]]
        check_linking(CountScale(3), blocks)
        self.assertEqual(blocks, [["3", "2"], ["1"], ["0"]])


class Least(unittest.TestCase):
    def test_told_in_full(self):
        self.assertEqual(least_linking(CountScale(3), []), [["0"], ["1"], ["2"], ["3"]])
        self.assertEqual(least_linking(CountScale(3), [("2", "3")]), [["0"], ["1"], ["2", "3"]])
        self.assertEqual(least_linking(CountScale(3), [("3", "1")]), [["0"], ["1", "2", "3"]])
        self.assertEqual(least_linking(CountScale(3), [("0", "3")]), [["0", "1", "2", "3"]])
        self.assertEqual(least_linking(TurnScale(6), (("5", "1"),)), [["0", "2", "4"], ["1", "3", "5"]])
        self.assertEqual(least_linking(TurnScale(6), [("4", "1")]), [["0", "3"], ["1", "4"], ["2", "5"]])
        self.assertEqual(least_linking(LevelScale(4), [("1", "2"), ("4", "3")]), [["0"], ["1", "2"], ["3", "4"]])
        self.assertEqual(least_linking(LevelScale(4), [("1", "1")]), [["0"], ["1"], ["2"], ["3"], ["4"]])
        self.assertEqual(least_linking(lone(), [("w", "w")]), [["w"]])

    def test_is_the_least_one(self):
        rng = random.Random(11)
        for scale in small_scales():
            every = plain_linkings(scale)
            for _ in range(6):
                chosen = [tuple(rng.choices(scale.worths(), k=2)) for _ in range(rng.randint(0, 2))]
                found = least_linking(scale, chosen)
                having = [b for b in every if all(block_of(b, x) == block_of(b, y) for x, y in chosen)]
                self.assertIn(found, having)
                self.assertTrue(all(lies_in(found, other) for other in having))

    def test_twelve_worths(self):
        scale = pairs()[0]
        found = least_linking(scale, [("0/1", "0/2")])
        self.assertIsNone(check_linking(scale, found))
        self.assertEqual(found, [["0/0"], ["0/1", "0/2"], ["0/3"], ["1/0"], ["1/1", "1/2"], ["1/3"], ["2/0"], ["2/1", "2/2"], ["2/3"]])

    def test_unknown_worths(self):
        for odd in ODD_VALUES:
            with self.assertRaises(UnknownWorth) as caught:
                least_linking(CountScale(1), [("0", "1"), (odd, "zzz")])
            self.assertIs(caught.exception.name, odd)
            with self.assertRaises(UnknownWorth) as caught:
                least_linking(CountScale(1), [("0", odd), ("zzz", "0")])
            self.assertIs(caught.exception.name, odd)

    def test_nothing_is_changed_or_shared(self):
        chosen = [("2", "3")]
        least_linking(CountScale(3), chosen)[0].append("9")
        self.assertEqual(chosen, [("2", "3")])
        self.assertEqual(least_linking(CountScale(3), chosen), [["0"], ["1"], ["2", "3"]])


class MetAndJoined(unittest.TestCase):
    def test_told_in_full(self):
        scale = LevelScale(4)
        first, second = [["2", "1"], ["0"], ["4", "3"]], [["0"], ["1"], ["2", "3"], ["4"]]
        self.assertEqual(met(scale, first, second), [["0"], ["1"], ["2"], ["3"], ["4"]])
        self.assertEqual(joined_linking(scale, first, second), [["0"], ["1", "2", "3", "4"]])
        self.assertEqual(met(scale, first, (("4", "3", "2", "1"), ("0",))), [["0"], ["1", "2"], ["3", "4"]])

    def test_each_two_linkings(self):
        for scale in small_scales():
            linkings = plain_linkings(scale)
            every = linkings[:8] + linkings[-3:]
            for first, second in itertools.product(every, every):
                lower = met(scale, first[::-1], [block[::-1] for block in second])
                self.assertEqual(lower, in_form(scale, lower))
                for a, b in itertools.product(scale.worths(), scale.worths()):
                    together = block_of(first, a) == block_of(first, b) and block_of(second, a) == block_of(second, b)
                    self.assertEqual(block_of(lower, a) == block_of(lower, b), together)
                upper = joined_linking(scale, first[::-1], [block[::-1] for block in second])
                above = [blocks for blocks in linkings if lies_in(first, blocks) and lies_in(second, blocks)]
                self.assertTrue(lies_in(first, upper) and lies_in(second, upper))
                self.assertTrue(all(lies_in(upper, other) for other in above))
                self.assertEqual(upper, in_form(scale, upper))
                self.assertIsNone(check_linking(scale, upper))

    def test_errors_of_the_first_one_come_first(self):
        scale = CountScale(3)
        good, unlinked = [["0"], ["1"], ["2"], ["3"]], [["0", "3"], ["1"], ["2"]]
        for call in (met, joined_linking):
            with self.assertRaises(NotLinked):
                call(scale, unlinked, None)
            with self.assertRaises(BadBlocks):
                call(scale, None, unlinked)
            with self.assertRaises(NotLinked):
                call(scale, good, unlinked)
            with self.assertRaises(BadBlocks):
                call(scale, good, [["0"]])
            with self.assertRaises(UnknownWorth):
                call(scale, good, [["x"]])


class Kernels(unittest.TestCase):
    def test_of_maps(self):
        self.assertEqual(kernel(ScaleMap(CountScale(3), yes_no(), ["no", "yes", "yes", "yes"])), [["0"], ["1", "2", "3"]])
        self.assertEqual(kernel(ScaleMap.same(CostScale(1))), [["0"], ["1"], ["none"]])
        self.assertEqual(kernel(ScaleMap(LevelScale(2), lone(), ["w", "w", "w"])), [["0", "1", "2"]])
        for source, target in itertools.product(small_scales()[:8], small_scales()[:8]):
            for m in all_maps(source, target):
                blocks = kernel(m)
                self.assertIsNone(check_linking(source, blocks))
                for a, b in itertools.product(source.worths(), source.worths()):
                    self.assertEqual(block_of(blocks, a) == block_of(blocks, b), m(a) == m(b))
                self.assertEqual(blocks, in_form(source, blocks))


class All(unittest.TestCase):
    def test_told_in_full(self):
        self.assertEqual(
            all_linkings(LevelScale(2)),
            [[["0"], ["1"], ["2"]], [["0", "1"], ["2"]], [["0"], ["1", "2"]], [["0", "1", "2"]]],
        )
        self.assertEqual(all_linkings(lone()), [[["w"]]])
        self.assertEqual(len(all_linkings(LevelScale(7))), 128)

    def test_order_of_as_many_blocks(self):
        # As the places of the first worths of the blocks, 0 0 2 3, 0 1 1 3 and 0 1 2 2 are written down.
        found = [blocks for blocks in all_linkings(LevelScale(3)) if len(blocks) == 3]
        self.assertEqual(found, [[["0", "1"], ["2"], ["3"]], [["0"], ["1", "2"], ["3"]], [["0"], ["1"], ["2", "3"]]])

    def test_against_all_partings(self):
        for scale in small_scales():
            self.assertEqual(all_linkings(scale), plain_linkings(scale))

    def test_eight_worths(self):
        for scale in eight_worths():
            self.assertEqual(len(scale), 8)
            self.assertEqual(all_linkings(scale), plain_linkings(scale))
        self.assertGreater(len(all_linkings(many_linked())), 200)

    def test_seven_worths(self):
        for scale in [scale for scale in families() + pairs() if len(scale) == 7]:
            self.assertEqual(all_linkings(scale), plain_linkings(scale))

    def test_not_all_ways_are_looked_through(self):
        # Callers ask these calls tens of thousands of times.
        scale = LevelScale(7)

        def seconds(call):
            start = time.perf_counter()
            call()
            return time.perf_counter() - start

        # The best of several tries, so that a machine that is busy elsewhere does not matter.
        quick = min(seconds(lambda: (all_linkings(scale), parting(scale, "1", "5"))) for _ in range(9))
        self.assertLess(quick * 8, seconds(lambda: look_through(scale)))
        self.assertEqual(len(parting(scale, "1", "5")), 4)

    def test_more_than_eight_worths(self):
        for scale in (PairScale(CountScale(2), LevelScale(2)), pairs()[0]):
            with self.assertRaises(TooMany):
                all_linkings(scale)
        self.assertGreater(len(all_linkings(PairScale(CountScale(1), LevelScale(3)))), 1)

    def test_answer_belongs_to_the_caller(self):
        all_linkings(LevelScale(1))[0][0].append("9")
        self.assertEqual(all_linkings(LevelScale(1)), [[["0"], ["1"]], [["0", "1"]]])


class Partings(unittest.TestCase):
    def test_told_in_full(self):
        self.assertEqual(parting(LevelScale(2), "0", "2"), [[["0", "1"], ["2"]], [["0"], ["1", "2"]]])
        self.assertEqual(parting(LevelScale(2), "1", "1"), [])
        self.assertEqual(parting(TurnScale(6), "0", "3"), [[["0", "2", "4"], ["1", "3", "5"]]])

    def test_against_all_linkings(self):
        for scale in small_scales() + [MostScale(5)]:
            every = plain_linkings(scale)
            for a, b in itertools.product(scale.worths()[:6], scale.worths()[-2:]):
                unlike = [blocks for blocks in every if block_of(blocks, a) != block_of(blocks, b)]
                expected = [x for x in unlike if not any(y != x and lies_in(x, y) for y in unlike)]
                self.assertEqual(parting(scale, a, b), expected)
                if a == b:
                    self.assertEqual(expected, [])

    def test_eight_worths(self):
        rng = random.Random(12)
        for scale in eight_worths():
            every = plain_linkings(scale)
            for _ in range(6):
                a, b = rng.sample(scale.worths(), 2)
                unlike = [blocks for blocks in every if block_of(blocks, a) != block_of(blocks, b)]
                expected = [x for x in unlike if not any(len(y) < len(x) and lies_in(x, y) for y in unlike)]
                self.assertEqual(parting(scale, a, b), expected)

    def test_errors(self):
        with self.assertRaises(TooMany):
            parting(pairs()[0], "zzz", None)
        for odd in ODD_VALUES:
            with self.assertRaises(UnknownWorth) as caught:
                parting(CountScale(2), odd, "zzz")
            self.assertIs(caught.exception.name, odd)
            with self.assertRaises(UnknownWorth) as caught:
                parting(CountScale(2), "0", odd)
            self.assertIs(caught.exception.name, odd)
            with self.assertRaises(UnknownWorth):
                parting(CountScale(2), odd, odd)


class Quotients(unittest.TestCase):
    def test_told_in_full(self):
        found = quotient(CountScale(3), [["3", "2"], ["1"], ["0"]])
        self.assertIsInstance(found, Scale)
        self.assertTrue(found == CountScale(2))
        found = quotient(CostScale(2), [["none"], ["2", "1", "0"]])
        self.assertTrue(found == CostScale(0))
        found = quotient(FewScale(1), [["1", "0"], ["none"]])
        self.assertEqual((found.worths(), found.nought, found.one), (["none", "0"], "none", "0"))

    def test_first_worths_are_first_in_the_order_of_the_scale(self):
        found = quotient(TurnScale(6), [["5", "1", "3"], ["4", "2", "0"]])
        self.assertEqual(found.worths(), ["0", "1"])
        self.assertTrue(found == TurnScale(2))
        found = quotient(LevelScale(3), [["3", "2"], ["0", "1"]])
        self.assertEqual((found.worths(), found.nought, found.one), (["0", "2"], "0", "2"))
        m = to_quotient(LevelScale(3), [["3", "2"], ["1", "0"]])
        self.assertEqual(m.images(), ["0", "0", "2", "2"])

    def test_more_than_eight_worths(self):
        scale = pairs()[0]
        each_alone = [[worth] for worth in scale.worths()]
        self.assertTrue(quotient(scale, each_alone) == scale)
        self.assertEqual(to_quotient(scale, each_alone).images(), scale.worths())

    def test_each_linking(self):
        for scale in small_scales():
            for blocks in plain_linkings(scale):
                shuffled = [block[::-1] for block in blocks[::-1]]
                found = quotient(scale, shuffled)
                first = {worth: block[0] for block in blocks for worth in block}
                self.assertEqual(found.worths(), [block[0] for block in blocks])
                self.assertEqual((found.nought, found.one), (first[scale.nought], first[scale.one]))
                for a, b in itertools.product(found.worths(), found.worths()):
                    self.assertEqual(found.plus(a, b), first[scale.plus(a, b)])
                    self.assertEqual(found.times(a, b), first[scale.times(a, b)])
                self.assertIsNone(first_fault(found))
                self.assertTrue(steady(found) or not steady(scale))
                m = to_quotient(scale, shuffled)
                self.assertTrue(m.source == scale and m.target == found)
                self.assertEqual(m.images(), [first[worth] for worth in scale.worths()])
                self.assertEqual(kernel(m), blocks)

    def test_errors(self):
        scale = CountScale(3)
        for call in (quotient, to_quotient):
            with self.assertRaises(BadBlocks):
                call(scale, None)
            with self.assertRaises(UnknownWorth):
                call(scale, [["x"]])
            with self.assertRaises(BadBlocks):
                call(scale, [["0"]])
            with self.assertRaises(NotLinked):
                call(scale, [["0", "3"], ["1"], ["2"]])


class Lawful(unittest.TestCase):
    def test_the_samples(self):
        for scale in families() + pairs() + [many_linked(), turning()]:
            self.assertIsNone(first_fault(scale))


if __name__ == "__main__":
    unittest.main()

import itertools
import unittest

from tests.samples import ODD_VALUES, families, lone, pairs, small_scales, turning, yes_no
from worthhouse.errors import BadImages, MixedScales, NotKept, UnknownWorth
from worthhouse.scalemaps import ScaleMap, all_maps
from worthhouse.scales import CostScale, CountScale, FewScale, LevelScale, PairScale, TableScale, TurnScale


def is_map(source, target, images):
    leads = dict(zip(source.worths(), images))
    kept = leads[source.nought] == target.nought and leads[source.one] == target.one
    for a, b in itertools.product(source.worths(), source.worths()):
        kept = kept and leads[source.plus(a, b)] == target.plus(leads[a], leads[b])
        kept = kept and leads[source.times(a, b)] == target.times(leads[a], leads[b])
    return kept


class Maps(unittest.TestCase):
    def test_leads(self):
        m = ScaleMap(CountScale(3), CountScale(1), ["0", "1", "1", "1"])
        self.assertEqual([m(worth) for worth in ["0", "1", "2", "3"]], ["0", "1", "1", "1"])
        self.assertEqual(m.images(), ["0", "1", "1", "1"])
        self.assertEqual((m.source, m.target), (CountScale(3), CountScale(1)))
        with self.assertRaises(UnknownWorth) as caught:
            m("4")
        self.assertEqual(caught.exception.name, "4")
        for odd in ODD_VALUES:
            with self.assertRaises(UnknownWorth) as caught:
                m(odd)
            self.assertIs(caught.exception.name, odd)

    def test_images_may_be_a_tuple(self):
        m = ScaleMap(CountScale(2), yes_no(), ("no", "yes", "yes"))
        self.assertEqual(m.images(), ["no", "yes", "yes"])

    def test_nothing_is_kept_or_shared(self):
        images = ["no", "yes", "yes"]
        m = ScaleMap(CountScale(2), yes_no(), images)
        images[0] = "yes"
        m.images().clear()
        self.assertEqual(m.images(), ["no", "yes", "yes"])
        self.assertEqual(m("0"), "no")

    def test_bad_images(self):
        for images in (["no"], ["no", "yes", "yes", "yes"], [], (), None, "abc", 3, True, {"0": 1, "1": 1, "2": 1}):
            with self.assertRaises(BadImages, msg=images):
                ScaleMap(CountScale(2), yes_no(), images)
        # The number of the images is looked at ahead of the images.
        with self.assertRaises(BadImages):
            ScaleMap(CountScale(2), yes_no(), ["zzz"])

    def test_unknown_images_come_ahead_of_what_is_kept(self):
        for odd in ODD_VALUES + ["0", "1"]:
            with self.assertRaises(UnknownWorth) as caught:
                ScaleMap(CountScale(2), yes_no(), ["yes", odd, "zzz"])
            self.assertIs(caught.exception.name, odd)

    def broken(self, source, target, images):
        with self.assertRaises(NotKept) as caught:
            ScaleMap(source, target, images)
        return (caught.exception.part, caught.exception.members)

    def test_not_kept(self):
        self.assertEqual(self.broken(CountScale(2), CountScale(2), ["1", "0", "2"]), ("nought", ()))
        self.assertEqual(self.broken(CountScale(2), CountScale(2), ["0", "2", "2"]), ("one", ()))
        self.assertEqual(self.broken(CountScale(3), CountScale(3), ["0", "1", "3", "2"]), ("sum", ("1", "1")))
        self.assertEqual(self.broken(CountScale(3), CountScale(3), ["0", "1", "2", "1"]), ("sum", ("1", "2")))
        self.assertEqual(self.broken(CountScale(3), CountScale(3), ["0", "1", "2", "2"]), ("sum", ("1", "2")))
        self.assertEqual(self.broken(LevelScale(3), LevelScale(3), ["0", "2", "1", "3"]), ("sum", ("1", "2")))

    def test_product_alone_is_not_kept(self):
        source = CostScale(2)
        # Sums are kept, as the order stays; 1 and 1 have the product 2, their images 0 and 0 have 0.
        self.assertEqual(self.broken(source, source, ["0", "0", "2", "none"]), ("product", ("1", "1")))
        self.assertEqual(self.broken(CostScale(3), CostScale(3), ["0", "1", "1", "2", "none"]), ("product", ("1", "1")))
        self.assertEqual(
            self.broken(CostScale(3), CostScale(3), ["0", "1", "2", "2", "none"]), ("product", ("1", "2"))
        )

    def test_first_break_by_a_plain_search(self):
        for source, target in [(CountScale(2), LevelScale(2)), (LevelScale(2), CostScale(1)), (TurnScale(3), CountScale(2))]:
            worths = source.worths()
            for images in itertools.product(target.worths(), repeat=len(worths)):
                leads = dict(zip(worths, images))
                faults = []
                if leads[source.nought] != target.nought:
                    faults.append(("nought", ()))
                if leads[source.one] != target.one:
                    faults.append(("one", ()))
                for part, mine, theirs in [("sum", source.plus, target.plus), ("product", source.times, target.times)]:
                    for a, b in itertools.product(worths, worths):
                        if leads[mine(a, b)] != theirs(leads[a], leads[b]):
                            faults.append((part, (a, b)))
                if faults:
                    self.assertEqual(self.broken(source, target, list(images)), faults[0])
                else:
                    ScaleMap(source, target, list(images))

    def test_same(self):
        for scale in families() + pairs() + [lone()]:
            m = ScaleMap.same(scale)
            self.assertEqual(m.images(), scale.worths())
            self.assertTrue(m.source == scale and m.target == scale)

    def test_one_worth_alone(self):
        m = ScaleMap(CountScale(2), lone(), ["w", "w", "w"])
        self.assertEqual(m("2"), "w")
        self.assertEqual(self.broken(lone(), yes_no(), ["yes"]), ("nought", ()))
        self.assertEqual(self.broken(lone(), yes_no(), ["no"]), ("one", ()))


class Behind(unittest.TestCase):
    def test_one_map_behind_another(self):
        first = ScaleMap(CountScale(3), CountScale(2), ["0", "1", "2", "2"])
        second = ScaleMap(CountScale(2), yes_no(), ["no", "yes", "yes"])
        both = first >> second
        self.assertIsInstance(both, ScaleMap)
        self.assertEqual((both.source, both.target), (CountScale(3), yes_no()))
        self.assertEqual(both.images(), ["no", "yes", "yes", "yes"])
        self.assertTrue(ScaleMap.same(CountScale(3)) >> first == first)
        self.assertTrue(first >> ScaleMap.same(CountScale(2)) == first)

    def test_order_of_worths_does_not_mix(self):
        first = ScaleMap(FewScale(1), CostScale(1), ["none", "0", "1"])
        second = ScaleMap(CostScale(1), FewScale(0), ["0", "0", "none"])
        self.assertEqual((first >> second).images(), ["none", "0", "0"])

    def test_mixed_scales(self):
        first = ScaleMap(CountScale(3), CountScale(2), ["0", "1", "2", "2"])
        for other in (first, ScaleMap.same(LevelScale(2)), ScaleMap.same(CountScale(3))):
            with self.assertRaises(MixedScales):
                first >> other

    def test_scales_are_the_same_whatever_made_by(self):
        first = ScaleMap(CountScale(2), LevelScale(1), ["0", "1", "1"])
        self.assertEqual((first >> ScaleMap.same(CountScale(1))).images(), ["0", "1", "1"])

    def test_equal(self):
        first = ScaleMap(CountScale(2), LevelScale(1), ["0", "1", "1"])
        self.assertTrue(first == ScaleMap(CountScale(2), CountScale(1), ("0", "1", "1")))
        self.assertFalse(first == ScaleMap(CountScale(2), yes_no(), ["no", "yes", "yes"]))
        self.assertFalse(ScaleMap.same(CountScale(2)) == ScaleMap.same(LevelScale(2)))
        self.assertFalse(ScaleMap(CostScale(2), CostScale(2), ["0", "1", "2", "none"]) == ScaleMap(CostScale(2), CostScale(2), ["0", "2", "2", "none"]))
        # The same images of the same worths, but another source, and another target.
        self.assertFalse(first == ScaleMap(LevelScale(2), LevelScale(1), ["0", "1", "1"]))
        order = ["0", "2", "1"]
        wider = TableScale(
            order,
            [[max(a, b, key=order.index) for b in order] for a in order],
            [[min(a, b, key=order.index) for b in order] for a in order],
            nought="0",
            one="1",
        )
        self.assertFalse(first == ScaleMap(CountScale(2), wider, ["0", "1", "1"]))
        for other in ODD_VALUES + [["0", "1", "1"], CountScale(2)]:
            self.assertIs(first == other, False)


class AllMaps(unittest.TestCase):
    def test_told_in_full(self):
        self.assertEqual([m.images() for m in all_maps(CountScale(3), CountScale(1))], [["0", "1", "1", "1"]])
        self.assertEqual(all_maps(CountScale(1), CountScale(2)), [])
        self.assertEqual(
            [m.images() for m in all_maps(CostScale(2), CostScale(2))],
            [["0", "0", "0", "none"], ["0", "1", "2", "none"], ["0", "2", "2", "none"], ["0", "none", "none", "none"]],
        )
        self.assertEqual(
            [m.images() for m in all_maps(FewScale(1), CostScale(0))], [["none", "0", "0"], ["none", "0", "none"]]
        )
        self.assertEqual([m.images() for m in all_maps(CountScale(2), lone())], [["w", "w", "w"]])
        self.assertEqual(all_maps(lone(), CountScale(1)), [])
        self.assertEqual([m.images() for m in all_maps(lone(), lone())], [["w"]])

    def test_against_all_choices(self):
        scales = [scale for scale in small_scales() if len(scale) <= 4] + [turning()]
        for source, target in itertools.product(scales, scales):
            expected = [
                list(images)
                for images in itertools.product(target.worths(), repeat=len(source))
                if is_map(source, target, images)
            ]
            found = all_maps(source, target)
            self.assertEqual([m.images() for m in found], expected)
            for m in found:
                self.assertTrue(isinstance(m, ScaleMap) and m.source == source and m.target == target)

    def test_as_many_choices_as_callers_have(self):
        found = all_maps(PairScale(CountScale(2), LevelScale(3)), yes_no())
        self.assertEqual([len(set(m.images())) for m in found], [2] * len(found))
        self.assertGreater(len(found), 0)
        self.assertEqual([m.images() for m in all_maps(TurnScale(4), TurnScale(8))], [])

    def test_order_hangs_on_the_target(self):
        # The target's worths stand the other way round than their names do.
        target = TableScale(
            ["z", "y", "a"],
            [["z", "y", "a"], ["y", "y", "y"], ["a", "y", "a"]],
            [["z", "z", "z"], ["z", "y", "a"], ["z", "a", "a"]],
            nought="z",
            one="y",
        )
        self.assertEqual(
            [m.images() for m in all_maps(LevelScale(2), target)], [["z", "z", "y"], ["z", "y", "y"], ["z", "a", "y"]]
        )


if __name__ == "__main__":
    unittest.main()

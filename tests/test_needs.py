import itertools
import random
import unittest

from tests.deedcases import no_deeds, told_facts
from tests.plain import plain_uses
from tests.plainlines import many_cases, plain_whole, right_lines
from tests.samples import ODD_VALUES, steady_scales, turning
from tests.test_asking import misfits
from worthhouse.compiling import compiled, store_over
from worthhouse.edits import edited
from worthhouse.errors import BadDeed, NoLine, NotSteady, NotTold, TooMany, UnknownFact, UnknownWorth
from worthhouse.frames import Frame
from worthhouse.needs import losses, needed_rows, needs, rows_under, wishes, worths_at
from worthhouse.papers import paper_of
from worthhouse.resting import within
from worthhouse.rounds import ruled_facts, settled
from worthhouse.rules import Program
from worthhouse.scales import CostScale, CountScale, LevelScale, TurnScale
from worthhouse.stores import Store
from worthhouse.texts import read_program, read_store

FRAME = Frame(["k"], [("e", ("k", "k")), ("t", ())], [("p", ("k", "k")), ("n", ()), ("o", ("k",))])
WAYS = "a: p(x y) :- e(x y) * {0}\nb: p(x z) :- p(x y), e(y z) * {0}"
THINGS = "a of k\nb of k\nc of k\nd of k\n"
AB, BC, AC, CD, BD = [("e", pair) for pair in (("a", "b"), ("b", "c"), ("a", "c"), ("c", "d"), ("b", "d"))]
N = ("n", ())


def case(rules, rows="", scale=None):
    scale = CostScale(6) if scale is None else scale
    return read_program(FRAME, scale, rules.format(scale.one)), read_store(FRAME, scale, (THINGS + rows).rstrip("\n"))


def costs():
    return case(WAYS, "e(a b) = 1\ne(b c) = 1\ne(a c) = 2\ne(c d) = 3\ne(b d) = 5\ne(d d) = 0\nt() = 1")


def least(many, is_enough):
    """All least lists by a look at all lists, shorter ones first."""
    lists = [one for size in range(many + 1) for one in itertools.combinations(range(many), size)]
    enough = {one for one in lists if is_enough(one)}
    return [list(one) for one in lists if one in enough and not any(one[:k] + one[k + 1:] in enough for k in range(len(one)))]


def road_cases(seed, many):
    """Ways over few roads in all scales, and a fact that hangs on them; then cases of any form."""
    rng = random.Random(seed)
    for k in range(many):
        scale = steady_scales()[k % 8]
        pairs = rng.sample(list(itertools.product("abc", repeat=2)), rng.randint(2, 6))
        rows = "\n".join(f"e({x} {y}) = {rng.choice(scale.worths())}" for x, y in pairs)
        program, store = case(WAYS + "\nc: n() :- p(x x) * {0}\nd: o(x) :- p(x y), t() * {0}", rows, scale)
        yield program, store, rng.choice([N, ("p", tuple(rng.choice("abc") for _ in range(2)))])
    for program, store in many_cases(seed, steady_scales(), many):
        facts = ruled_facts(program, store)
        if facts:
            yield program, store, rng.choice(facts)


def settled_at(program, store, fact):
    return settled(program, store)[0][fact]


def mattering(program, store, fact):
    """The rows that are told facts of uses whose heads are in the least whole set with the fact."""
    whole = plain_whole(program, store, [fact])
    told = {row for use in plain_uses(program, store) if use[2] in whole for row in use[3]}
    return [row for row in store.rows() if row[:2] in told]


class WorthsAt(unittest.TestCase):
    def test_told_in_full(self):
        program, store = costs()
        found = worths_at(program, store, "e", ("b", "c"), ("p", ("a", "d")))
        self.assertEqual(list(found.items()), [("0", "4"), ("1", "5"), ("2", "5"), ("3", "5"), ("4", "5"), ("5", "5"), ("6", "5"), ("none", "5")])
        # A row that there is not: as with nought without it.
        found = worths_at(program, store, "e", ("d", "a"), ("p", ("d", "b")))
        self.assertEqual(found["none"], settled_at(program, store, ("p", ("d", "b"))))
        self.assertEqual(list(found.values()), ["1", "2", "3", "4", "5", "6", "6", "none"])
        self.assertEqual(set(worths_at(program, store, "t", (), N).values()), {"none"})

    def test_a_row_twice_in_a_use(self):
        program, store = case("a: n() :- t(), t() * {0}\nb: n() :- n(), t() * {0}", "t() = 1", CountScale(7))
        self.assertEqual(list(worths_at(program, store, "t", (), N).items()), [("0", "0"), ("1", "7"), ("2", "7")] + [(str(k), "7") for k in range(3, 8)])
        program, store = case("a: n() :- t(), t() * {0}", "", CountScale(7))
        self.assertEqual(list(worths_at(program, store, "t", (), N).values()), ["0", "1", "4", "7", "7", "7", "7", "7"])

    def test_against_settled(self):
        rng = random.Random(171)
        unlike = 0
        for program, store, fact in road_cases(171, 120):
            told = told_facts(program, store)
            if told:
                row = rng.choice([one[:2] for one in store.rows()] * 2 + told)
                found = worths_at(program, store, *row, fact)
                self.assertEqual(list(found), program.scale.worths())
                for worth in found:
                    self.assertEqual(found[worth], settled_at(*edited(program, store, ("tell", *row, worth)), fact))
                for one in found:
                    for other in found:
                        if within(program.scale, one, other):
                            self.assertTrue(within(program.scale, found[one], found[other]))
                unlike += len(set(found.values())) > 1
        self.assertGreater(unlike, 15)

    def test_errors(self):
        program, store = costs()
        fact = ("p", ("a", "b"))
        for odd in ODD_VALUES + ["p", "n", "zz"]:
            with self.assertRaises(NotTold) as caught:
                worths_at(program, store, odd, None, None)
            self.assertIs(caught.exception.name, odd)
        for things in [(), ("a",), ("a", "zz"), ("a", "b", "c"), ("a", "@b")]:
            with self.assertRaises(UnknownFact) as caught:
                worths_at(program, store, "e", things, None)
            self.assertEqual(caught.exception.fact, ("e", things))
        for odd in ODD_VALUES + [AB, ("p", ("a", "zz")), ("p", ["a", "b"])]:
            with self.assertRaises(UnknownFact) as caught:
                worths_at(program, store, *AB, odd)
            self.assertIs(caught.exception.fact, odd)
        program, store = case(WAYS, scale=TurnScale(2))
        with self.assertRaises(NotSteady):
            worths_at(program, store, None, None, fact)
        for program, store, error in misfits():
            with self.assertRaises(error):
                worths_at(program, store, None, None, None)


class Needs(unittest.TestCase):
    def test_told_in_full(self):
        program, store = costs()
        ab, bc, ac, cd, _, _, _ = store.rows()
        self.assertEqual(needs(program, store, ("p", ("a", "c"))), [[ac], [ab, bc]])
        self.assertEqual(losses(program, store, ("p", ("a", "c"))), [[ab, ac], [bc, ac]])
        self.assertEqual(needs(program, store, ("p", ("b", "d"))), [[bc, cd]])
        self.assertEqual(losses(program, store, ("p", ("b", "d"))), [[bc], [cd]])
        self.assertEqual(needed_rows(program, store, ("p", ("b", "d"))), [bc, cd])
        self.assertIn(needed_rows(program, store, ("p", ("a", "c"))), [[ac], [ab, bc]])

    def test_a_fact_that_is_nought(self):
        program, store = costs()
        self.assertEqual(needed_rows(program, store, N), [])
        self.assertEqual(needs(program, store, N), [[]])
        self.assertEqual(losses(program, store, N), [])
        self.assertEqual(needs(program, store, ("p", ("b", "a"))), [[]])
        self.assertEqual(losses(program, store, ("p", ("b", "a"))), [])

    def test_a_fact_without_rows(self):
        program, store = case("a: n() * {0}\nb: n() :- t() * {0}", "t() = 3")
        self.assertEqual((needed_rows(program, store, N), needs(program, store, N), losses(program, store, N)), ([], [[]], []))

    def test_counts_need_many_rows(self):
        program, store = case(WAYS + "\nc: n() :- p(@a @d) * {0}", "e(a b) = 1\ne(b d) = 1\ne(a c) = 1\ne(c d) = 1", CountScale(7))
        self.assertEqual(needs(program, store, N), [store.rows()])
        self.assertEqual(losses(program, store, N), [[row] for row in store.rows()])
        self.assertEqual(needed_rows(program, store, N), store.rows())
        program, store = case(WAYS + "\nc: n() :- p(@a @d) * {0}", "e(a b) = 1\ne(b d) = 1\ne(a c) = 1\ne(c d) = 1", CountScale(1))
        self.assertEqual(needs(program, store, N), [store.rows()[:2], store.rows()[2:]])
        self.assertEqual(len(losses(program, store, N)), 4)

    def test_exactly_eight_and_nine_rows(self):
        rows = ["e({} {}) = {}".format(x, y, worth) for x, y, worth in [("a", "b", 1), ("b", "c", 1), ("c", "d", 1), ("a", "c", 2), ("b", "d", 2), ("a", "a", 0), ("b", "b", "none"), ("a", "d", 3)]]
        program, store = case(WAYS + "\nc: n() :- p(x y) * {0}", "\n".join(rows + ["t() = 1"]))
        fact = ("p", ("a", "d"))
        ab, bc, cd, ac, bd, _, _, ad, _ = store.rows()
        self.assertEqual(needs(program, store, fact), [[ad], [ab, bd], [cd, ac], [ab, bc, cd]])
        self.assertEqual(losses(program, store, fact)[0], [ab, cd, ad])
        # A ninth row, of nought, too, is one too many, but only where it matters.
        wider = store.with_rows(store.rows() + [("e", ("d", "d"), "none")])
        for call in (needs, losses):
            with self.assertRaises(TooMany):
                call(program, wider, fact)
            with self.assertRaises(TooMany):
                call(program, wider, N)
        self.assertEqual(needed_rows(program, wider, fact), needed_rows(program, store, fact))
        other = Program(FRAME, program.scale, program.rules()[:1])
        self.assertEqual(needs(other, wider, fact), [[ad]])

    def test_by_a_plain_look_at_all_lists(self):
        several, lost = 0, 0
        for program, store, fact in road_cases(172, 140):
            rows = mattering(program, store, fact)
            full = settled_at(program, store, fact)
            found = needed_rows(program, store, fact)
            self.assertEqual([row for row in store.rows() if row in found], found)
            self.assertEqual(settled_at(program, store.with_rows(found), fact), full)
            for row in found:
                self.assertNotEqual(settled_at(program, store.with_rows([one for one in found if one != row]), fact), full)
            if len(rows) > 8:
                for call in (needs, losses):
                    with self.assertRaises(TooMany):
                        call(program, store, fact)
            elif len(rows) <= 6:
                def serves(numbers):
                    return settled_at(program, store.with_rows([rows[k] for k in numbers]), fact) == full

                def is_loss(numbers):
                    gone = [rows[k] for k in numbers]
                    return settled_at(program, store.with_rows([row for row in store.rows() if row not in gone]), fact) != full

                expected = [[rows[k] for k in numbers] for numbers in least(len(rows), serves)]
                self.assertEqual(needs(program, store, fact), expected)
                several += len(expected) > 1
                expected = [[rows[k] for k in numbers] for numbers in least(len(rows), is_loss)]
                self.assertEqual(losses(program, store, fact), expected)
                lost += len(expected) > 1
        self.assertGreater(several, 10)
        self.assertGreater(lost, 10)

    def test_many_rows(self):
        # Far more than eight rows: needed_rows alone finds its way.
        rng = random.Random(173)
        for scale in (CountScale(3), CostScale(6), LevelScale(4)):
            things = [f"c{k}" for k in range(6)]
            rows = [("e", (x, y), rng.choice(scale.worths())) for x in things for y in things if rng.random() < 0.6]
            store = Store(FRAME, scale, [(thing, "k") for thing in things], rows)
            program = read_program(FRAME, scale, (WAYS + "\nc: n() :- p(@c0 x) * {0}").format(scale.one))
            for fact in [N, ("p", ("c0", "c5"))]:
                found = needed_rows(program, store, fact)
                full = settled_at(program, store, fact)
                self.assertEqual(settled_at(program, store.with_rows(found), fact), full)
                for row in found:
                    self.assertNotEqual(settled_at(program, store.with_rows([one for one in found if one != row]), fact), full)

    def test_needs_and_losses_meet(self):
        for program, store, fact in road_cases(174, 60):
            if len(mattering(program, store, fact)) <= 8:
                lists, lost = needs(program, store, fact), losses(program, store, fact)
                for one in lists:
                    self.assertTrue(all(set(one) & set(other) for other in lost))
                self.assertIn(needed_rows(program, store, fact), lists)

    def test_errors(self):
        program, store = costs()
        for call in (needed_rows, needs, losses):
            for odd in ODD_VALUES + [AB, ("p", ("a", "zz")), ("p", ["a", "b"]), ("zz", ())]:
                with self.assertRaises(UnknownFact) as caught:
                    call(program, store, odd)
                self.assertIs(caught.exception.fact, odd)
            for odd, odd_store, error in misfits():
                with self.assertRaises(error):
                    call(odd, odd_store, None)
            with self.assertRaises(NotSteady):
                call(*case(WAYS, scale=turning()), None)

    def test_what_is_returned_can_be_changed(self):
        program, store = costs()
        fact = ("p", ("a", "c"))
        for call in (needs, losses):
            found = call(program, store, fact)
            found[0].clear()
            found.clear()
            self.assertEqual(len(call(program, store, fact)), 2)
        needed_rows(program, store, fact).clear()
        self.assertNotEqual(needed_rows(program, store, fact), [])


class Under(unittest.TestCase):
    def test_told_in_full(self):
        program, store = costs()
        ab, bc, ac, cd, _, _, _ = store.rows()
        lines = [("a", ("b", "c"), ()), ("a", ("a", "b"), ()), ("b", ("a", "c", "b"), (1,)), ("a", ("b", "c"), ())]
        self.assertEqual(rows_under(program, store, lines[:1]), [bc])
        self.assertEqual(rows_under(program, store, lines[:3]), [ab, bc])
        self.assertEqual(rows_under(program, store, tuple(lines[:3])), [ab, bc])
        self.assertEqual(rows_under(program, store, []), [])
        for bad, number in [(lines, 3), (lines[2:], 0), ([None], 0), (lines[:2] + ODD_VALUES, 2)]:
            with self.assertRaises(NoLine) as caught:
                rows_under(program, store, bad)
            self.assertEqual(caught.exception.number, number)
        for odd, odd_store, error in misfits():
            with self.assertRaises(error):
                rows_under(odd, odd_store, [None])

    def test_any_scale_and_rows_of_nought(self):
        program, store = case("a: n() :- t() * {0}", "t() = e", turning())
        self.assertEqual(rows_under(program, store, [("a", (), ())]), store.rows())

    def test_they_serve_each_fact(self):
        rng = random.Random(175)
        for program, store in many_cases(175, steady_scales(), 60):
            facts = ruled_facts(program, store)
            paper = paper_of(program, store, rng.sample(facts, min(len(facts), 3)))
            rows = rows_under(program, store, paper[1])
            uses = {use[:2]: use for use in plain_uses(program, store)}
            told = {row for line in paper[1] for row in uses[line[:2]][3]}
            self.assertEqual(rows, [row for row in store.rows() if row[:2] in told])
            ahead, behind = settled(program, store)[0], settled(program, store.with_rows(rows))[0]
            self.assertTrue(all(ahead[fact] == behind[fact] for fact in paper[0]))
            rows_under(program, store, right_lines(rng, program, store, 10)).clear()

    def test_made_names(self):
        frame = Frame(["k"], [("e", ("k", "k"))], [])
        program, _ = compiled(frame, CountScale(7), (("x",), ("over", "y", ("table", "e", ("x", "y")))))
        store = store_over(program.frame, read_store(frame, CountScale(7), "a of k\nb of k\ne(a b) = 2\ne(b a) = 0"))
        paper = paper_of(program, store, ruled_facts(program, store))
        self.assertEqual(rows_under(program, store, paper[1]), [("e", ("a", "b"), "2")])


class Wishes(unittest.TestCase):
    def test_told_in_full(self):
        program, store = costs()
        fact = ("p", ("a", "d"))
        deeds = [("raise", *CD, "2"), ("raise", *AC, "0"), ("raise", *CD, "1"), ("raise", *BD, "0"), ("raise", *AB, "6")]
        self.assertEqual(settled_at(program, store, fact), "5")
        self.assertEqual(wishes(program, store, deeds, fact, "4"), [[0], [1], [2], [3]])
        self.assertEqual(wishes(program, store, tuple(deeds), fact, "3"), [[1], [2], [3]])
        self.assertEqual(wishes(program, store, deeds, fact, "1"), [[3], [1, 2]])
        # The worth is there already; no raises lead there.
        self.assertEqual(wishes(program, store, deeds, fact, "5"), [[]])
        self.assertEqual(wishes(program, store, deeds, fact, "none"), [[]])
        self.assertEqual(wishes(program, store, deeds, fact, "0"), [])
        self.assertEqual(wishes(program, store, [], fact, "4"), [])
        self.assertEqual(wishes(program, store, [], fact, "6"), [[]])

    def test_a_deed_under_two_numbers(self):
        program, store = case("a: n() :- t() * {0}", "t() = 1", CountScale(7))
        twice = ("raise", "t", (), "2")
        self.assertEqual(wishes(program, store, [twice, twice, twice], N, "5"), [[0, 1], [0, 2], [1, 2]])
        self.assertEqual(wishes(program, store, [twice, twice], N, "6"), [])

    def test_rows_that_there_are_not(self):
        program, store = case(WAYS)
        deeds = [("raise", *AB, "1"), ("raise", *BC, "1"), ("raise", *AC, "none"), ("raise", *AC, "3")]
        self.assertEqual(wishes(program, store, deeds, ("p", ("a", "c")), "3"), [[3], [0, 1]])
        self.assertEqual(wishes(program, store, deeds, ("p", ("a", "c")), "2"), [[0, 1]])
        self.assertEqual(len(store), 0)

    def test_exactly_eight_and_nine_deeds(self):
        program, store = case("a: n() :- t() * {0}", "", CountScale(7))
        deed = ("raise", "t", (), "1")
        self.assertEqual(wishes(program, store, [deed] * 8, N, "7"), [list(one) for one in itertools.combinations(range(8), 7)])
        with self.assertRaises(TooMany):
            wishes(program, store, [deed] * 9, N, "7")

    def test_by_a_plain_look_at_all_lists(self):
        rng = random.Random(176)
        granted = 0
        for program, store, fact in road_cases(176, 200):
            told = told_facts(program, store)
            if not told:
                continue
            chosen = rng.sample([one[:2] for one in store.rows()] * 3 + told, min(len(told), 4))
            deeds = [("raise", *rng.choice(chosen), rng.choice(program.scale.worths())) for _ in range(rng.randint(0, 5))]
            worth = rng.choice(program.scale.worths())

            def is_granted(numbers):
                met = (program, store)
                for number in numbers:
                    met = edited(*met, deeds[number])
                return within(program.scale, worth, settled_at(*met, fact))

            expected = least(len(deeds), is_granted)
            self.assertEqual(wishes(program, store, deeds, fact, worth), expected)
            granted += expected not in ([], [[]])
        self.assertGreater(granted, 12)

    def test_errors_of_deeds(self):
        program, store = costs()
        good = ("raise", *AB, "1")
        others = [("tell", *AB, "1"), ("clear", *AB), ("unrule", "a"), ("rule", program.rule("a"))]
        for odd in no_deeds([good]) + others:
            with self.assertRaises(BadDeed, msg=odd):
                wishes(program, store, [good, odd, ("raise", "zz", (), "1")], None, None)
        for deed, error, value in [
            (("raise", "n", ("zz",), "x"), NotTold, "n"),
            (("raise", "e", ("a",), "x"), UnknownFact, ("e", ("a",))),
            (("raise", *AB, "7"), UnknownWorth, "7"),
        ]:
            with self.assertRaises(error) as caught:
                wishes(program, store, [good, deed, None], None, None)
            self.assertEqual(list(vars(caught.exception).values()), [value])

    def test_errors_behind_them(self):
        program, store = costs()
        good = ("raise", *AB, "1")
        for odd in ODD_VALUES + [AB, ("p", ("a", "zz"))]:
            with self.assertRaises(UnknownFact) as caught:
                wishes(program, store, [good] * 9, odd, "7")
            self.assertIs(caught.exception.fact, odd)
        for odd in ODD_VALUES + ["7"]:
            if odd not in ("0",):
                with self.assertRaises(UnknownWorth) as caught:
                    wishes(program, store, [good] * 9, N, odd)
                self.assertIs(caught.exception.name, odd)
        with self.assertRaises(TooMany):
            wishes(program, store, [good] * 9, N, "6")
        with self.assertRaises(NotSteady):
            wishes(*case(WAYS, scale=turning()), [None], None, None)
        for odd, odd_store, error in misfits():
            with self.assertRaises(error):
                wishes(odd, odd_store, [None], None, None)

    def test_what_is_passed_and_returned_can_be_changed(self):
        program, store = costs()
        deeds = [("raise", *CD, "2")]
        found = wishes(program, store, deeds, ("p", ("a", "d")), "4")
        deeds.clear()
        found[0].clear()
        self.assertEqual(wishes(program, store, [("raise", *CD, "2")], ("p", ("a", "d")), "4"), [[0]])


if __name__ == "__main__":
    unittest.main()

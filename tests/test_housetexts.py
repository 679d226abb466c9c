import random
import unittest

from tests.housecases import some_houses, step
from tests.plainhousetexts import plain_wrong_row
from tests.samples import road_frame, turning
from tests.test_house import COUNTS, EDGE, FRAME, N, RULE, TELL, house, told
from worthhouse.errors import BadText
from worthhouse.frames import Frame
from worthhouse.house import House
from worthhouse.housetexts import read_house, write_house
from worthhouse.scales import CostScale, CountScale, PairScale
from worthhouse.texts import read_program, read_store

START = """b of k
a of k
e(b a) = 1
t() = 2
a: o(x) :- e(x y) * 1
z: n() :- o(x) * 1
"""
FULL = START + """1 0 tell t() = 5
2 1 raise e(a a) = 3
3 0 clear e(b a)
4 3 rule m: n() :- t(), e(x @a), x != @a * 1
5 4 unrule z
6 5 merge 2
branch main 1 0 1 2
branch b 3 0 3 4 5 6
branch c 0 4
here b
watch n()
watch o(a)"""


class Written(unittest.TestCase):
    def led(self):
        one = house()
        one.branch("b")
        one.do(TELL)
        one.do(EDGE)
        one.undo()
        one.go("b")
        one.do(("clear", "e", ("b", "a")))
        one.do(("rule", ("m", ("n", ()), (("t", ()), ("e", ("x", "@a"))), (("unlike", "x", "@a"),), "1")))
        one.branch("c")
        one.do(("unrule", "z"))
        one.go("main")
        one.redo()
        one.go("b")
        one.merge("main")
        one.undo()
        one.go("main")
        one.undo()
        one.go("b")
        one.watch([N, ("o", ("a",))])
        return one

    def test_told_in_full(self):
        one = self.led()
        self.assertEqual(write_house(one), FULL)
        found = read_house(FRAME, COUNTS, FULL)
        self.assertEqual(found, one)
        self.assertEqual(told(found), told(one))
        self.assertEqual(write_house(house()), START + "branch main 0 0\nhere main")

    def test_no_rows_at_all(self):
        one = House(read_program(FRAME, COUNTS, ""), read_store(FRAME, COUNTS, ""))
        self.assertEqual(write_house(one), "branch main 0 0\nhere main")
        one.do(("rule", RULE))
        text = "1 0 rule m: n() :- t() * 1\nbranch main 1 0 1\nhere main"
        self.assertEqual(write_house(one), text)
        self.assertEqual(read_house(FRAME, COUNTS, text), one)
        # Rules without things and rows.
        text = "m: n() :- t() * 1\nbranch main 0 0\nhere main"
        self.assertEqual(write_house(read_house(FRAME, COUNTS, text)), text)

    def test_worths_of_pairs(self):
        scale = PairScale(CountScale(1), CostScale(1))
        text = "t() = 1/none\nn: n() :- t() * 0/1\n1 0 raise t() = 1/0\nbranch main 0 0 1\nhere main\nwatch n()"
        one = read_house(FRAME, scale, text)
        self.assertEqual(write_house(one), text)
        self.assertEqual((one.worth(N), one.worth_at(1, N)), ("0/none", "0/1"))

    def test_written_read_and_written_again(self):
        rng = random.Random(231)
        for one, plain, _ in some_houses(rng, 231, 60, 30):
            text = write_house(one)
            program, _ = one.state(0)
            found = read_house(program.frame, program.scale, text)
            self.assertEqual(found, one)
            self.assertEqual(write_house(found), text)
            self.assertIsNone(plain_wrong_row(program.frame, program.scale, text))
            # It is a house like others: the same calls lead it on.
            for _ in range(5):
                step(rng, found, plain)
            self.assertNotEqual(write_house(found), None)
            self.assertEqual(write_house(one), text)


class Words(unittest.TestCase):
    """Things, tables, labels and branches that are called like the words of rows."""

    FRAME = Frame(["k", "of", "merge"], [("watch", ("k",)), ("here", ("k",)), ("branch", ())], [("tell", ("k",)), ("rule", ())])

    def test_they_are_told_from_rows(self):
        text = """here of k
branch of k
watch of of
merge of merge
tell of k
of of k
branch() = 1
here(here) = 2
watch(branch) = 3
branch: rule() :- watch(x) * 1
here: tell(x) :- here(x), x = @here * 1
watch: rule() * 0
1 0 tell watch(here) = 1
2 1 rule merge: tell(@branch) :- branch() * 1
3 2 unrule here
4 1 clear branch()
5 4 raise here(of) = 0
6 5 merge 2
branch main 0 0
branch of 0 6
branch here 1 2 3
branch branch 0 1
branch merge 0 4
branch watch 0 5
here of
watch tell(here)
watch rule()
watch tell(branch)"""
        one = read_house(self.FRAME, COUNTS, text)
        self.assertEqual(write_house(one), text)
        self.assertEqual(one.here(), "of")
        self.assertEqual(one.state(0)[1].things()[0], ("here", "k"))
        self.assertEqual(one.watched(), [("tell", ("here",)), ("rule", ()), ("tell", ("branch",))])
        self.assertIsNone(plain_wrong_row(self.FRAME, COUNTS, text))
        self.assertEqual(one.branches(), ["main", "of", "here", "branch", "merge", "watch"])

    def test_all_beginnings(self):
        text = "here of k\nbranch of k\nbranch main 0 0\nbranch of 0 0\nhere of\nwatch rule()"
        rows = text.split("\n")
        for many in range(len(rows) + 1):
            part = "\n".join(rows[:many])
            expected = plain_wrong_row(self.FRAME, COUNTS, part)
            self.assertEqual(wrong_row(self.FRAME, COUNTS, part), expected)
        self.assertEqual(wrong_row(self.FRAME, COUNTS, "here of k\nhere of"), 1)
        self.assertEqual(wrong_row(self.FRAME, COUNTS, "branch of 0"), 0)


def wrong_row(frame, scale, text):
    try:
        read_house(frame, scale, text)
    except BadText as caught:
        row, sign = caught.place
        assert sign == 0 and isinstance(caught.place, tuple)
        return row
    return None


class Wrong(unittest.TestCase):
    ROWS = FULL.split("\n")

    def check(self, at, row, expected=None, frame=FRAME, scale=COUNTS):
        """The row at this place exchanged by others: it cannot stand, nor can these behind it."""
        rows = self.ROWS[:at] + ([row] if row is not None else []) + self.ROWS[at + 1:]
        expected = at if expected is None else expected
        self.assertEqual(wrong_row(frame, scale, "\n".join(rows)), expected, row)
        self.assertEqual(plain_wrong_row(frame, scale, "\n".join(rows)), expected, row)

    def stands(self, at, row):
        rows = self.ROWS[:at] + [row] + self.ROWS[at + 1:]
        one = read_house(FRAME, COUNTS, "\n".join(rows))
        self.assertEqual(write_house(one), "\n".join(rows))
        self.assertIsNone(plain_wrong_row(FRAME, COUNTS, "\n".join(rows)))
        return one

    def test_state_zero(self):
        # Kinds, things told twice, forms.
        for row in ("b of m", "b of 0", "b  of k", "b of k ", "", " ", "B of k", "b", "thirteensigns of k", "b of", "b of k of k", "0", "b(a)"):
            self.check(0, row)
        self.check(1, "b of k")
        # Rows: of no told table, with other things, of no worth, out of order, twice.
        for row in ("o(a) = 1", "zz(a) = 1", "e(a) = 1", "e(a c) = 1", "e(b a) = 8", "e(b a) = ", "e(b  a) = 1", "e(b a) =1"):
            self.check(2, row)
        for row in ("e(b a) = 1", "e(a a) = 1", "e(b a) = 2", "a of k", "c of k"):
            self.check(3, row)
        # Rules: none by S2.4, labels out of order, things that the store does not have.
        for row in ("a: o(x) :- e(x y) * 8", "a: e(x y) :- e(x y) * 1", "a: o(x) * 1", "a: o(@c) * 1", "a: o(x) :- e(x y), y = @c * 1", "a.0: o(@a) * 1", "a: o(x) :- e(x y)"):
            self.check(4, row)
        for row in ("a: n() * 1", "B: n() * 1", "t() = 1", "z: n() :- o(x) * 9"):
            self.check(5, row)
        self.check(5, "aa: n() :- o(x) * 1", 10)
        # A row of the store behind a rule, a thing behind a row.
        self.check(4, "c of k")

    def test_states(self):
        for row in ("2 0 tell t() = 5", "0 0 tell t() = 5", "01 0 tell t() = 5", "1 1 tell t() = 5", "1 00 tell t() = 5", "1 2 tell t() = 5", "1 0  tell t() = 5", "1 0 tell t() = 5 ", "1 0 Tell t() = 5", "1 0 told t() = 5", "1 tell t() = 5", "1 0", "1", "1 0 t() = 5", "99999 0 tell t() = 5"):
            self.check(6, row)
        # Deeds that cannot be done.
        for row in ("tell n() = 1", "tell t(a) = 1", "tell t() = 8", "raise e(a c) = 1", "clear e(a a)", "clear n()", "unrule m", "rule m: n() * 8", "rule m: o(@c) * 1", "rule m: n() :- zz() * 1", "rule m: n()", "clear t() = 2", "unrule", "unrule z ", "merge", "merge x", "merge 0 0"):
            self.check(6, "1 0 " + row)
        self.check(8, "3 3 clear e(b a)")
        self.check(10, "5 4 unrule zz")
        # State 5 came of 4, in which there is the rule m; in 2 there is none.
        self.check(10, "5 2 unrule m")

    def test_long_numbers(self):
        long = "1" + "0" * 5000
        self.check(6, f"{long} 0 tell t() = 5")
        self.check(6, f"1 {long} tell t() = 5")
        self.check(11, f"6 5 merge {long}")
        self.check(12, f"branch main {long} 0")
        self.check(12, f"branch main 0 0 {long}")

    def test_merges(self):
        # The merged state is an elder of the elder, or the elder itself, or no earlier one.
        for row in ("6 5 merge 5", "6 5 merge 4", "6 5 merge 0", "6 5 merge 6", "6 5 merge 7", "6 2 merge 1", "6 5 merge 02", "6 5 merge 1000"):
            self.check(11, row)
        rows = self.ROWS[:6] + ["1 0 tell t() = 5", "2 0 tell t() = 6", "3 1 merge 2", "branch main 0 0", "here main"]
        self.assertEqual(wrong_row(FRAME, COUNTS, "\n".join(rows)), 8)
        rows[7] = "2 0 tell t() = 5"
        self.assertIsNone(wrong_row(FRAME, COUNTS, "\n".join(rows)))

    def test_branches(self):
        for row in ("branch b 0 0", "branch main 0 1", "branch main 3 0 1 2", "branch main 1 0 2", "branch main 0 0 1 3", "branch main 0 0 7", "branch main 0", "branch main", "branch main  0 0", "branch main 00 0", "branch main 0 00", "branch main 0 0 ", "branch main 0 0 1 1", "branch main -1 0", "branch main 1000 0", "branch main 0 0 1000"):
            self.check(12, row)
        for row in ("branch main 0 0", "branch B 0 0", "branch b 4 0 3 4 5", "branch b 0 7", "branch b 0 0 3 4 6", "branch b 0 3 0", "branch b 0 6 7", "branch b.0 0 0"):
            self.check(13, row)
        for row in ("branch main 1 0 0", "branch main 0 0 0"):
            text = "\n".join(self.ROWS[:7] + [row, "here main"])
            self.assertEqual(wrong_row(FRAME, COUNTS, text), 7)
        # What no calls lead to may stand: a trail that begins anywhere, a number twice in trails.
        one = self.stands(14, "branch c 1 1 2")
        self.assertEqual((one.trail("c"), one.mark("c")), ([1, 2], 1))
        one = self.stands(14, "branch c 0 5 6")
        one.go("c")
        self.assertEqual((one.present(), one.redo(), one.undo()), (5, 6, 5))
        one = self.stands(14, "branch c 2 0 1 2")
        self.assertEqual(one.trail("c"), one.trail("main"))
        # A merge is behind its first elder alone.
        self.check(14, "branch c 0 2 6")

    def test_here(self):
        for row in ("here zz", "here", "here ", "here b(", "here b:", "here b b", "here  b", "Here b", "watch n()"):
            self.check(15, row)
        self.check(15, None)
        self.check(16, "here b")
        self.check(16, "branch d 0 0")
        self.check(16, "7 0 unrule z")

    def test_watches(self):
        for row in ("watch e(a a)", "watch o(c)", "watch o()", "watch zz()", "watch n() ", "watch n", "watch  n()", "watch n() = 1", "watch", ""):
            self.check(16, row)
        self.check(17, "watch n()")
        text = "branch main 0 0\nhere main\nwatch n()"
        self.assertEqual(wrong_row(FRAME, turning(), text), 2)
        self.assertIsNone(wrong_row(FRAME, turning(), text[:-10]))

    def test_the_branch_in_which_it_stands_is_missing(self):
        for many in range(1, 15):
            text = "\n".join(self.ROWS[:many])
            self.assertEqual(wrong_row(FRAME, COUNTS, text), many)
        self.assertEqual(wrong_row(FRAME, COUNTS, ""), 0)
        self.assertEqual(wrong_row(FRAME, COUNTS, "\n"), 0)
        self.assertEqual(wrong_row(FRAME, COUNTS, FULL + "\n"), 18)
        self.assertEqual(wrong_row(FRAME, COUNTS, "\n" + FULL), 0)

    def test_two_hundred_states_and_six_branches(self):
        rows = [f"{k} {k - 1} tell t() = {k % 8}" for k in range(1, 200)]
        ends = ["branch main 199 " + " ".join(str(k) for k in range(200)), "here main"]
        one = read_house(FRAME, COUNTS, "\n".join(rows + ends))
        self.assertEqual((len(one), one.present()), (200, 199))
        self.assertEqual(write_house(one), "\n".join(rows + ends))
        self.assertEqual(wrong_row(FRAME, COUNTS, "\n".join(rows + ["200 0 tell t() = 1"] + ends)), 199)
        branches = ["branch main 0 0"] + [f"branch b{k} 0 0" for k in range(6)]
        self.assertIsNone(wrong_row(FRAME, COUNTS, "\n".join(branches[:6] + ["here b4"])))
        self.assertEqual(wrong_row(FRAME, COUNTS, "\n".join(branches + ["here b4"])), 6)

    def test_another_frame_or_scale(self):
        self.assertEqual(wrong_row(road_frame(), COUNTS, FULL), 0)
        self.assertEqual(wrong_row(FRAME, CountScale(1), FULL), 3)
        self.assertEqual(wrong_row(FRAME, CountScale(2), FULL), 6)

    def test_exchanged_rows_and_signs(self):
        rng = random.Random(232)
        wrong = 0
        for one, _, _ in some_houses(rng, 232, 50, 25):
            program, _ = one.state(0)
            text = write_house(one)
            for _ in range(8):
                found = changed_text(rng, text)
                expected = plain_wrong_row(program.frame, program.scale, found)
                self.assertEqual(wrong_row(program.frame, program.scale, found), expected, found)
                wrong += expected is not None
                if expected is None:
                    again = read_house(program.frame, program.scale, found)
                    self.assertEqual(write_house(again), found)
        self.assertGreater(wrong, 150)


def changed_text(rng, text):
    """The text with a row or a sign put in, taken out, doubled or exchanged."""
    rows = text.split("\n")
    at, other = rng.randrange(len(rows)), rng.randrange(len(rows))
    way = rng.randrange(6)
    if way == 0:
        rows[at], rows[other] = rows[other], rows[at]
    elif way == 1:
        rows.insert(at, rows[other])
    elif way == 2:
        del rows[at]
    elif way == 3:
        numbers = [k for k, sign in enumerate(rows[at]) if sign.isdigit()]
        if numbers:
            k = rng.choice(numbers)
            rows[at] = rows[at][:k] + rng.choice("0123456789") + rows[at][k + 1:]
    else:
        k = rng.randint(0, len(rows[at]))
        rows[at] = rows[at][:k] + rng.choice(["", " ", "0", "a", "(", ":"]) + rows[at][k + rng.randint(0, 1):]
    return "\n".join(rows)


if __name__ == "__main__":
    unittest.main()

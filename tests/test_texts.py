import random
import re
import unittest

from tests.samples import RandomCases, road_frame, road_program, road_rules, road_store, small_scales, yes_no
from worthhouse.errors import BadName, BadRow, BadRule, BadText, BadThing, TwiceTold
from worthhouse.frames import Frame, made_frame
from worthhouse.rules import Program, made_program
from worthhouse.scales import CostScale, CountScale, LevelScale, PairScale
from worthhouse.stores import Store
from worthhouse.texts import read_program, read_store, write_program, write_store

PROGRAM_TEXT = """direct: way(x y) :- road(x y) * 0
onward: way(x z) :- way(x y), road(y z), x != z * 0
fine: good(x) :- is(x @red), way(x y) * none
some: any() :- good(x), open() * 0
fixed: good(@b) * 0
deals: swap(x s y) :- deal(x s y), good(y), s = @red * 0
twice: any() :- any(), any() * 0"""

STORE_TEXT = """a of town
red of sort
b of town
c of town
blue of sort
road(a b) = 0
road(b c) = none
road(c a) = none
is(a red) = 0
is(c red) = 0
open() = 0
deal(a red b) = 0"""

# The forms of S2.7, written down once more as patterns; a beginning of a row is one
# if some of the endings makes a row of it.
WORD = "[a-z][a-z0-9]{0,11}"
PLACE = f"@?{WORD}"
ATOM = rf"{WORD}\((?:{PLACE}(?: {PLACE})*)?\)"
TEST = f"{PLACE} (?:=|!=) {PLACE}"
WORTH = "[a-z0-9/]+"
RULE_ROW = re.compile(
    rf"{WORD}: {ATOM}(?: :- (?:{ATOM}(?:, {ATOM})*(?:, {TEST})*|{TEST}(?:, {TEST})*))? \* {WORTH}"
)
THING_ROW = re.compile(f"{WORD} of {WORD}")
FACT_ROW = re.compile(rf"{WORD}\((?:{WORD}(?: {WORD})*)?\) = {WORTH}")


def endings(samples):
    return sorted({row[k:] for row in samples for k in range(len(row) + 1)}, key=len)


RULE_ENDINGS = endings(
    ["a: b(c @d) :- e(f @g), h() * k", "a: b(c) :- e(f), h = @i, @j != k * w", "a: b() * w", "a: b() :- c != d * w"]
)
STORE_ENDINGS = endings(["a of b", "a(b c) = d", "a() = d"])


def first_bad_sign(row, patterns, ends):
    """None if the row is one by the patterns, else the length of its longest beginning."""
    if any(pattern.fullmatch(row) for pattern in patterns):
        return None
    for length in range(len(row), -1, -1):
        if any(pattern.fullmatch(row[:length] + end) for pattern in patterns for end in ends):
            return length
    raise AssertionError(row)


def plain_place(text, is_store):
    """The place that S2.8 tells for a text, None if its form is right."""
    if text == "":
        return None
    patterns = [THING_ROW, FACT_ROW] if is_store else [RULE_ROW]
    ends = STORE_ENDINGS if is_store else RULE_ENDINGS
    for number, row in enumerate(text.split("\n")):
        sign = first_bad_sign(row, patterns, ends)
        if sign is not None:
            return (number, sign)
        if is_store and FACT_ROW.fullmatch(row):
            patterns = [FACT_ROW]
    return None


class Written(unittest.TestCase):
    def test_program(self):
        self.assertEqual(write_program(road_program()), PROGRAM_TEXT)
        self.assertEqual(write_program(Program(road_frame(), yes_no(), [])), "")

    def test_store(self):
        self.assertEqual(write_store(road_store()), STORE_TEXT)
        self.assertEqual(write_store(Store(road_frame(), yes_no(), [], [])), "")
        self.assertEqual(write_store(Store(road_frame(), yes_no(), [], [("open", (), "yes")])), "open() = yes")
        self.assertEqual(write_store(Store(road_frame(), yes_no(), [("a", "town")], [])), "a of town")

    def test_rows_of_rules(self):
        scale = PairScale(CountScale(2), CostScale(1))
        for rule, row in [
            (("r", ("any", ()), (), (), "1/0"), "r: any() * 1/0"),
            (
                ("r", ("good", ("x",)), (("good", ("x",)),), (("same", "@a", "x"), ("unlike", "x", "x")), "0/none"),
                "r: good(x) :- good(x), @a = x, x != x * 0/none",
            ),
            (("r", ("way", ("@a", "@b")), (), (), "2/1"), "r: way(@a @b) * 2/1"),
        ]:
            self.assertEqual(write_program(Program(road_frame(), scale, [rule])), row)
            self.assertEqual(read_program(road_frame(), scale, row).rules(), [rule])

    def test_made_names_in_programs(self):
        frame = made_frame(["k"], [("t.0", ("k",))], [("p", ()), ("q.0", ()), ("q.1", ())])

        def name_in(*rules):
            with self.assertRaises(BadName) as caught:
                write_program(made_program(frame, yes_no(), list(rules)))
            return caught.exception.name

        self.assertEqual(name_in(("w.0", ("q.0", ()), (("q.1", ()),), (), "yes")), "w.0")
        self.assertEqual(name_in(("r", ("q.0", ()), (("q.1", ()),), (), "yes")), "q.0")
        self.assertEqual(name_in(("r", ("p", ()), (("p", ()), ("t.0", ("x",)), ("q.1", ())), (), "yes")), "t.0")
        self.assertEqual(name_in(("r", ("p", ()), (), (), "yes"), ("s", ("p", ()), (("q.1", ()),), (), "no")), "q.1")
        self.assertEqual(name_in(("r", ("p", ()), (("q.1", ()),), (), "yes"), ("w.0", ("p", ()), (), (), "no")), "q.1")
        self.assertEqual(
            write_program(made_program(frame, yes_no(), [("r", ("p", ()), (), (), "yes")])), "r: p() * yes"
        )

    def test_made_names_in_stores(self):
        frame = made_frame(["k"], [("t", ("k",)), ("t.0", ("k",)), ("t.1", ())], [])
        rows = [("t", ("a",), "yes"), ("t.1", (), "yes"), ("t.0", ("a",), "yes")]
        with self.assertRaises(BadName) as caught:
            write_store(Store(frame, yes_no(), [("a", "k")], rows))
        self.assertEqual(caught.exception.name, "t.1")
        self.assertEqual(write_store(Store(frame, yes_no(), [("a", "k")], rows[:1])), "a of k\nt(a) = yes")


class ReadBack(unittest.TestCase):
    def test_told_in_full(self):
        scale = CostScale(6)
        program = read_program(road_frame(), scale, PROGRAM_TEXT)
        self.assertTrue(program == road_program(scale))
        self.assertEqual(program.rules(), road_rules(scale))
        store = read_store(road_frame(), scale, STORE_TEXT)
        self.assertTrue(store == road_store(scale))
        self.assertEqual(store.rows(), road_store(scale).rows())
        self.assertEqual(write_program(program), PROGRAM_TEXT)
        self.assertEqual(write_store(store), STORE_TEXT)

    def test_empty_text(self):
        self.assertTrue(read_program(road_frame(), yes_no(), "") == Program(road_frame(), yes_no(), []))
        self.assertTrue(read_store(road_frame(), yes_no(), "") == Store(road_frame(), yes_no(), [], []))

    def test_random_ones(self):
        cases = RandomCases(23)
        scales = small_scales()
        for k in range(150):
            scale = scales[k % len(scales)]
            program, store = cases.case(scale)
            text = write_program(program)
            self.assertIsNone(plain_place(text, False))
            again = read_program(program.frame, scale, text)
            self.assertTrue(again == program)
            self.assertEqual(write_program(again), text)
            text = write_store(store)
            self.assertIsNone(plain_place(text, True))
            again = read_store(store.frame, scale, text)
            self.assertTrue(again == store)
            self.assertEqual((again.rows(), write_store(again)), (store.rows(), text))

    def test_many_variables(self):
        frame = Frame(["k"], [("t", ("k",) * 3)], [("p", ())])
        text = "r: p() :- t(a b c), t(d e f), t(g h i) * yes"
        program = read_program(frame, yes_no(), text)
        self.assertEqual(program.variables("r"), tuple("abcdefghi"))
        self.assertEqual(write_program(program), text)


class BadTexts(unittest.TestCase):
    def place(self, text, read=read_program, frame=None, scale=None):
        with self.assertRaises(BadText, msg=text) as caught:
            read(road_frame() if frame is None else frame, yes_no() if scale is None else scale, text)
        return caught.exception.place

    def test_rows_of_rules(self):
        for text, sign in [
            ("\n", 0),
            (" ", 0),
            ("r", 1),
            ("R: any() * yes", 0),
            ("r : any() * yes", 1),
            ("r:any() * yes", 2),
            ("r:  any() * yes", 3),
            ("r: any", 6),
            ("r: any * yes", 6),
            ("r: any(x", 8),
            ("r: any( x) * yes", 7),
            ("r: any(x  y) * yes", 9),
            ("r: any(x, y) * yes", 8),
            ("r: any(x ) * yes", 9),
            ("r: any(@) * yes", 8),
            ("r: any(@@a) * yes", 8),
            ("r: any(X) * yes", 7),
            ("r: any()", 8),
            ("r: any() ", 9),
            ("r: any()* yes", 8),
            ("r: any() - yes", 9),
            ("r: any() *", 10),
            ("r: any() *yes", 10),
            ("r: any() * ", 11),
            ("r: any() * Yes", 11),
            ("r: any() * yes ", 14),
            ("r: any() * y-s", 12),
            ("r: any() :", 10),
            ("r: any() :- ", 12),
            ("r: any() :-any() * yes", 11),
            ("r: any() :- * yes", 12),
            ("r: any() :- any()", 17),
            ("r: any() :- any(),any() * yes", 18),
            ("r: any() :- any() , any() * yes", 18),
            ("r: any() :- x * yes", 14),
            ("r: any() :- x", 13),
            ("r: any() :- x = ", 16),
            ("r: any() :- x=y * yes", 13),
            ("r: any() :- x !y * yes", 15),
            ("r: any() :- x ! = y * yes", 15),
            ("r: any() :- x == y * yes", 15),
            ("r: any() :- @x(y) * yes", 14),
            ("r: any() :- x = y, any() * yes", 22),
            ("r: any() :- any(), x = y, any() * yes", 29),
            ("r: any() :- any(), x != @y, @z = z, a(", 37),
            ("r.0: any() * yes", 1),
            ("r: q.0() * yes", 4),
        ]:
            self.assertEqual(self.place(text), (0, sign), text)
            if text != "\n":
                self.assertEqual(plain_place(text, False), (0, sign), text)

    def test_words_of_twelve_and_thirteen_signs(self):
        word = "abcdefghijkl"
        self.assertEqual(self.place(word + "m: any() * yes"), (0, 12))
        self.assertEqual(self.place(f"r: {word}m() * yes"), (0, 15))
        self.assertEqual(self.place(f"r: any() :- good({word}m) * yes"), (0, 29))
        self.assertEqual(self.place(f"r: any() :- good(@{word}m) * yes"), (0, 30))
        self.assertEqual(self.place(f"r: any() :- {word}m = x * yes"), (0, 24))
        self.assertEqual(self.place(f"r: any() :- x = {word}m * yes"), (0, 28))
        self.assertEqual(self.place(f"{word}m of town", read_store), (0, 12))
        self.assertEqual(self.place(f"a of {word}m", read_store), (0, 17))
        self.assertEqual(self.place(f"a({word}m) = yes", read_store), (0, 14))
        program = read_program(road_frame(), yes_no(), f"{word}: any() :- good({word}), {word} != @{word} * yes")
        self.assertEqual(program.labels(), [word])
        # A worth may go on.
        with self.assertRaises(BadRule):
            read_program(road_frame(), yes_no(), f"r: any() * {word}{word}/0")

    def test_rows_of_stores(self):
        for text, sign in [
            (" ", 0),
            ("a", 1),
            ("a ", 2),
            ("a o", 3),
            ("a if town", 2),
            ("a of", 4),
            ("a of ", 5),
            ("a of town ", 9),
            ("a of Town", 5),
            ("a  of town", 2),
            ("@a of town", 0),
            ("open( ) = yes", 5),
            ("open()", 6),
            ("open() =", 8),
            ("open() = ", 9),
            ("open()= yes", 6),
            ("open() * yes", 7),
            ("road(@a b) = yes", 5),
            ("road(a  b) = yes", 7),
            ("road(a b ) = yes", 9),
            ("road (a b) = yes", 5),
            ("open() = yes.", 12),
            ("t.0() = yes", 1),
        ]:
            self.assertEqual(self.place(text, read_store), (0, sign), text)
            self.assertEqual(plain_place(text, True), (0, sign), text)

    def test_a_thing_behind_a_row(self):
        self.assertEqual(self.place("a of town\nopen() = yes\nb of town", read_store), (2, 1))
        self.assertEqual(self.place("open() = yes\nb of ", read_store), (1, 1))
        self.assertEqual(self.place("open() = yes\nb", read_store), (1, 1))
        self.assertEqual(self.place("a of town\nb of town\nopen( = yes", read_store), (2, 5))

    def test_empty_rows(self):
        for text, row in [("\n", 0), ("\na of town", 0), ("a of town\n", 1), ("a of town\n\nopen() = yes", 1)]:
            self.assertEqual(self.place(text, read_store), (row, 0))
        for text, row in [("r: any() * yes\n", 1), ("\nr: any() * yes", 0), ("r: any() * yes\n\ns: any() * yes", 1)]:
            self.assertEqual(self.place(text), (row, 0))

    def test_the_first_row_that_is_none(self):
        self.assertEqual(self.place("r: any() * yes\ns: any() *\nr"), (1, 10))

    def test_the_form_comes_ahead_of_all_else(self):
        self.assertEqual(self.place("r: zz() * zz\nr: zz() * zz "), (1, 12))
        self.assertEqual(self.place("a of zz\na of zz\nzz() = zz\nzz(a) =", read_store), (3, 7))

    def test_whatever_words_there_are(self):
        for text in (
            "r: zz() * yes",
            "r: any() * zz",
            "r: any() :- @a = @b * yes",
            "r: any(a b c d e) * yes",
            "r: any() * /",
            "r: any() :- x = x * yes",
        ):
            with self.assertRaises(BadRule) as caught:
                read_program(road_frame(), yes_no(), "first: any() * yes\n" + text)
            self.assertEqual(caught.exception.number, 1)

    def test_errors_of_stores(self):
        frame = road_frame()
        with self.assertRaises(BadThing) as caught:
            read_store(frame, yes_no(), "a of town\nb of zz\nzz() = zz")
        self.assertEqual(caught.exception.name, "b")
        for row in ("way(a a) = yes", "road(a a a a) = yes", "road(a a) = maybe", "road(a b) = yes"):
            with self.assertRaises(BadRow) as caught:
                read_store(frame, yes_no(), "a of town\nopen() = yes\n" + row)
            self.assertEqual(caught.exception.number, 1)
        with self.assertRaises(TwiceTold) as caught:
            read_store(frame, yes_no(), "a of town\nroad(a a) = yes\nroad(a a) = no")
        self.assertEqual((caught.exception.name, caught.exception.filled), ("road", ("a", "a")))


class ChangedTexts(unittest.TestCase):
    """Texts with signs put in, taken out or exchanged, against the patterns."""

    SIGNS = "ab9 z@():-,=!*/.\nA~"

    def changed(self, rng, text):
        for _ in range(rng.choice([1, 1, 1, 2, 3])):
            at = rng.randint(0, len(text))
            how = rng.randint(0, 3)
            if how == 0:
                text = text[:at] + rng.choice(self.SIGNS) + text[at:]
            elif how == 1:
                text = text[:at] + text[at + 1 :]
            elif how == 2:
                text = text[:at] + rng.choice(self.SIGNS) + text[at + 1 :]
            else:
                text = text[:at] + text[at : at + 2][::-1] + text[at + 2 :]
        return text

    def check(self, text, read, is_store):
        expected = plain_place(text, is_store)
        try:
            read(road_frame(), CostScale(6), text)
            found = None
        except BadText as error:
            found = error.place
        except (BadRule, BadThing, BadRow, TwiceTold):
            found = None
        self.assertEqual(found, expected, repr(text))
        return found

    def test_programs(self):
        rng = random.Random(31)
        rows = PROGRAM_TEXT.split("\n") + ["r: any() :- x = y, @a != z * 3", "s: any() * 4"]
        places = [self.check(self.changed(rng, row), read_program, False) for row in rows for _ in range(150)]
        places += [self.check(self.changed(rng, PROGRAM_TEXT), read_program, False) for _ in range(100)]
        self.assertGreater(len([place for place in places if place is not None]), 500)
        self.assertGreater(len(set(places)), 50)

    def test_stores(self):
        rng = random.Random(32)
        texts = ["a of town\nopen() = 0", "road(a b) = 0\nis(a red) = none", "a of town\nred of sort"]
        places = [self.check(self.changed(rng, text), read_store, True) for text in texts for _ in range(300)]
        places += [self.check(self.changed(rng, STORE_TEXT), read_store, True) for _ in range(200)]
        self.assertGreater(len([place for place in places if place is not None]), 500)
        self.assertGreater(len(set(places)), 30)

    def test_every_beginning(self):
        for text, read, is_store in [(PROGRAM_TEXT, read_program, False), (STORE_TEXT, read_store, True)]:
            for length in range(len(text)):
                self.check(text[:length], read, is_store)


class Scales(unittest.TestCase):
    def test_worths_of_the_scale(self):
        scale = PairScale(CountScale(2), LevelScale(3))
        self.assertEqual(read_program(road_frame(), scale, "r: any() * 2/3").rule("r")[4], "2/3")
        self.assertEqual(read_store(road_frame(), scale, "open() = 0/1").worth("open", ()), "0/1")


if __name__ == "__main__":
    unittest.main()

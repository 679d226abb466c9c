import random
import unittest

from tests.plaintexts import first_wrong_sign
from tests.questioncases import RandomQuestions
from tests.samples import pairs
from worthhouse.asktexts import read_question, write_question
from worthhouse.errors import BadText
from worthhouse.questions import check_question
from worthhouse.scales import CostScale

A = ("table", "a", ("x",))
TEXTS = [
    ((("x",), A), "ask x: a(x)"),
    (((), ("table", "z0", ())), "ask: z0()"),
    ((("x", "y"), ("table", "t", ("x", "@c", "y"))), "ask x y: t(x @c y)"),
    ((("x",), ("call", "r", ("x", "@c"))), "ask x: $r(x @c)"),
    (((), ("call", "r", ())), "ask: $r()"),
    ((("x",), ("both", A, ("with", A, A))), "ask x: (a(x) + (a(x) & a(x)))"),
    ((("x",), ("where", ("same", "x", "@c"), A)), "ask x: (a(x) if x = @c)"),
    ((("x",), ("where", ("unlike", "@c", "@d"), A)), "ask x: (a(x) if @c != @d)"),
    (((), ("over", "x", ("over", "y", A))), "ask: sum x sum y a(x)"),
    (((), ("worth", "0/none")), "ask: #0/none"),
    (((), ("with", ("worth", "1"), ("worth", "2"))), "ask: (#1 & #2)"),
    (((), ("let", "r", (("x", "k"), ("y", "m")), A, ("call", "r", ()))), "ask: let r(x of k, y of m) be a(x) in $r()"),
    (((), ("least", "r", (), ("worth", "1"), ("worth", "2"))), "ask: least r() be #1 in #2"),
    (((), ("both", ("let", "r", (), A, A), A)), "ask: (let r() be a(x) in a(x) + a(x))"),
    (((), ("let", "r", (), ("let", "s", (), A, A), A)), "ask: let r() be let s() be a(x) in a(x) in a(x)"),
    # Tables, variables and names R may be called like the words of the form.
    ((("sum",), ("over", "let", ("table", "sum", ("least", "ask")))), "ask sum: sum let sum(least ask)"),
    (((), ("let", "least", (("of", "of"),), ("table", "let", ()), ("table", "least", ()))), "ask: let least(of of of) be let() in least()"),
    ((("if",), ("where", ("same", "if", "in"), ("table", "be", ("if",)))), "ask if: (be(if) if if = in)"),
    (((), ("table", "a" * 12, ("@" + "b" * 12,))), "ask: aaaaaaaaaaaa(@bbbbbbbbbbbb)"),
]


class Written(unittest.TestCase):
    def test_told_in_full(self):
        for question, text in TEXTS:
            self.assertEqual(write_question(question), text)
            self.assertEqual(read_question(text), question)

    def test_random_ones(self):
        cases = RandomQuestions(31)
        for scale in (CostScale(3), pairs()[0]):
            for _ in range(120):
                question = cases.question(scale, 40)
                text = write_question(question)
                self.assertEqual(read_question(text), question)
                self.assertEqual(write_question(read_question(text)), text)
                self.assertIsNone(first_wrong_sign(text))
                self.assertIsNone(check_question(cases.frame, scale, read_question(text)))

    def test_worths_of_any_signs(self):
        # A worth is whatever its run of signs is; no scale is asked.
        self.assertEqual(read_question("ask: #zz/0//9"), ((), ("worth", "zz/0//9")))
        self.assertEqual(read_question("ask: #" + "9" * 40), ((), ("worth", "9" * 40)))
        self.assertEqual(read_question("ask: (#1 & #/)"), ((), ("with", ("worth", "1"), ("worth", "/"))))
        self.assertEqual(write_question(((), ("worth", "Zz %"))), "ask: #Zz %")

    def test_what_is_wrong_by_kinds_is_read(self):
        self.assertEqual(read_question("ask x x: zz(@c)"), (("x", "x"), ("table", "zz", ("@c",))))
        self.assertEqual(write_question((("x", "x"), ("table", "zz", ("@c",)))), "ask x x: zz(@c)")

    def test_many_terms(self):
        for begin, end in [("sum x ", ""), ("(", " + a(x))"), ("(", " if x = y)"), ("let r() be ", " in a(x)")]:
            text = "ask: " + begin * 168 + "a(x)" + end * 168
            self.assertEqual(write_question(read_question(text)), text)
        text = "ask: " + "(a(x) & " * 168 + "a(x)" + ")" * 168
        self.assertEqual(write_question(read_question(text)), text)

    def test_nothing_is_shared(self):
        question = read_question("ask x: a(x)")
        self.assertEqual(question, (("x",), A))
        self.assertIsInstance(question[0], tuple)
        self.assertIsInstance(question[1][2], tuple)


class Wrong(unittest.TestCase):
    def sign(self, text):
        try:
            read_question(text)
        except BadText as bad:
            self.assertEqual(bad.place[0], 0)
            return bad.place[1]
        return None

    def test_told_in_full(self):
        for text, sign in [
            ("", 0),
            ("a", 1),
            ("ask", 3),
            ("asking", 3),
            ("ask:", 4),
            ("ask :", 4),
            ("ask: ", 5),
            ("ask x", 5),
            ("ask x y: t", 10),
            ("ask x  y: t()", 6),
            ("ask: a", 6),
            ("ask: a(x", 8),
            ("ask: a(x ", 9),
            ("ask: a(x )", 9),
            ("ask: a( x)", 7),
            ("ask: a(x, y)", 8),
            ("ask: a(X)", 7),
            ("ask: a()b", 8),
            ("ask: a() ", 8),
            ("ask: A()", 5),
            ("ask: 0a()", 5),
            ("ask: " + "a" * 12 + "()", None),
            ("ask: " + "a" * 13 + "()", 17),
            ("ask " + "x" * 13 + ": a()", 16),
            ("ask: $ r()", 6),
            ("ask: $@r()", 6),
            ("ask: a.0()", 6),
            ("ask: #", 6),
            ("ask: #1 ", 7),
            ("ask: #A", 6),
            ("ask: #1)", 7),
            ("ask: (a()", 9),
            ("ask: (a() ", 10),
            ("ask: (a() - a())", 10),
            ("ask: (a() +a())", 11),
            ("ask: (a() + a()", 15),
            ("ask: (a() + a() + a())", 15),
            ("ask: (a() in a())", 11),
            ("ask: (a() if x == y)", 16),
            ("ask: (a() if x ! y)", 16),
            ("ask: (a() if x <= y)", 15),
            ("ask: (a() if x = y", 18),
            ("ask: (a())", 9),
            ("ask: sum", 8),
            ("ask: sum()", None),
            ("ask: sum ", 9),
            ("ask: sum x", 10),
            ("ask: sum x a(x)", None),
            ("ask: sum @x a(x)", 9),
            ("ask: sums x a(x)", 9),
            ("ask: sum x y a(x)", 12),
            ("ask: lets r() be a() in a()", 9),
            ("ask: let r be a() in a()", 10),
            ("ask: let r(x) be a() in a()", 12),
            ("ask: let r(x of k,y of k) be a() in a()", 18),
            ("ask: let r(x of @k) be a() in a()", 16),
            ("ask: let r(x of k, ) be a() in a()", 19),
            ("ask: let r() be a()", 19),
            ("ask: let r() be a() if x = y", 21),
            ("ask: let r() in a() be a()", 13),
            ("ask: least r() be a() in", 24),
            ("ask: leas r() be a() in a()", 9),
            ("ask: a()\n", 8),
            ("\nask: a()", 0),
            ("ask:\na()", 4),
            ("ask: (a()\n+ a())", 9),
        ]:
            self.assertEqual(self.sign(text), sign, text)
            self.assertEqual(first_wrong_sign(text), sign, text)

    def test_signs_put_in_taken_out_and_exchanged(self):
        rng = random.Random(32)
        cases = RandomQuestions(33)
        texts = [text for _, text in TEXTS] + [write_question(cases.question(CostScale(3), 9)) for _ in range(60)]
        signs = "aszx019 (),:@$#&+=!/\n~Z.%_-" + "".join(map(chr, range(32, 127)))
        wrong = 0
        for text in texts:
            for _ in range(40):
                at = rng.randrange(len(text) + 1)
                cut = rng.choice([at, at + 1, at + 1, at + 2])
                further = "".join(rng.choice(signs) for _ in range(rng.choice([0, 1, 1, 2])))
                other = text[:at] + further + text[cut:]
                if rng.random() < 0.1:
                    other = text[:at]
                if rng.random() < 0.1:
                    other = text[:at] + "abcdefghijkl" + text[at:]
                expected = first_wrong_sign(other)
                self.assertEqual(self.sign(other), expected, other)
                if expected is None:
                    self.assertEqual(write_question(read_question(other)), other)
                wrong += expected is not None
        self.assertGreater(wrong, 1000)

    def test_very_many_brackets(self):
        self.assertEqual(self.sign("ask: " + "(" * 5000), 5005)
        self.assertEqual(self.sign("ask: " + "sum x " * 3000 + "0"), 18005)


if __name__ == "__main__":
    unittest.main()

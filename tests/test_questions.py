import random
import unittest

from tests.plaincheck import changed, exchanged, parts, plain_fault
from tests.questioncases import RandomQuestions, ask_frame
from tests.samples import ODD_VALUES, steady_scales, turning
from worthhouse.columns import columns_at, columns_of
from worthhouse.errors import BadQuestion
from worthhouse.questions import check_question, names_of, term_at, things_of_question
from worthhouse.scales import CountScale

FRAME = ask_frame()
COUNTS = CountScale(3)
A_X = ("table", "a", ("x",))
A_Y = ("table", "a", ("y",))
B_X = ("table", "b", ("x",))
B_Y = ("table", "b", ("y",))
T_XY = ("table", "t", ("x", "y"))
Z = ("table", "z0", ())
ONE = ("worth", "1")


def fault(question, frame=FRAME, scale=COUNTS):
    try:
        check_question(frame, scale, question)
    except BadQuestion as bad:
        return (bad.place, bad.word)
    return None


def of_term(term):
    """The fault of a question with this term, whatever its variables."""
    found = fault(((), term))
    return None if found == ((), "variables") else found


class Right(unittest.TestCase):
    def test_each_form(self):
        for question in [
            (("x",), A_X),
            (("y", "x"), T_XY),
            (("x",), ("table", "t", ("x", "x"))),
            ((), ("table", "a", ("@c",))),
            ((), Z),
            ((), ONE),
            (("x", "y"), ("both", T_XY, ("table", "t", ("y", "x")))),
            (("x", "y"), ("both", T_XY, ("with", A_Y, A_X))),
            (("x",), ("with", A_X, Z)),
            (("x",), ("over", "y", T_XY)),
            ((), ("over", "x", ("over", "y", T_XY))),
            (("x", "y"), ("where", ("unlike", "x", "y"), T_XY)),
            (("x",), ("where", ("same", "@c", "x"), A_X)),
            (("x",), ("where", ("same", "x", "x"), A_X)),
            (("x",), ("let", "r", (("y", "k"),), A_Y, ("call", "r", ("x",)))),
            ((), ("let", "r", (), Z, ("let", "s", (), ("call", "r", ()), ("call", "s", ())))),
            ((), ("let", "r", (), Z, ONE)),
            (("y",), ("least", "r", (("x", "k"),), ("call", "r", ("x",)), ("call", "r", ("y",)))),
            ((), ("least", "r", (), ("let", "s", (), ("call", "r", ()), ("call", "s", ())), ("call", "r", ()))),
            ((), ("least", "r", (), ("least", "s", (), ("call", "r", ()), ("call", "s", ())), ("call", "r", ()))),
            ((), ("over", "x", ("with", A_X, ("over", "x", B_X)))),
        ]:
            self.assertIsNone(fault(question), question)
            self.assertIsNone(check_question(FRAME, COUNTS, question))

    def test_names_of_all_sorts_may_be_the_same(self):
        self.assertIsNone(fault((("a",), ("let", "k", (("t", "k"),), ("table", "a", ("t",)), ("call", "k", ("a",))))))
        self.assertIsNone(fault(((), ("let", "table", (), Z, ("call", "table", ())))))

    def test_random_ones(self):
        cases = RandomQuestions(1)
        for k in range(150):
            self.assertIsNone(fault(cases.question(COUNTS, 30, columns=k % 5)))

    def test_many_terms(self):
        term = A_X
        for k in range(84):
            term = ("where", ("unlike", "x", "@c"), ("both", term, A_X)) if k % 2 else ("with", ONE, term)
        self.assertIsNone(fault((("x",), term)))
        for _ in range(80):
            term = ("both", A_X, term)
        self.assertIsNone(fault((("x",), term)))
        wide = ("with", ("table", "w3", ("x", "y", "z")), ("table", "w3", ("u", "v", "w")))
        self.assertIsNone(fault((("x", "y", "z", "u", "v", "w"), wide)))
        self.assertEqual(columns_of(FRAME, COUNTS, (("w", "v", "u", "z", "y", "x"), wide))[1], ("v", "m"))


class ByForm(unittest.TestCase):
    def test_no_question(self):
        for odd in ODD_VALUES + ["ask", (("x",),), (("x",), A_X, ()), [("x",), A_X], (["x"], A_X), ("x", A_X)]:
            self.assertEqual(fault(odd), ((), "form"), odd)
        for odd in ["X", "", "x.0", "a" * 13, "0x", "@c", None, 1, True, ("x",), ["x"]]:
            self.assertEqual(fault(((odd,), A_X)), ((), "form"), odd)
        self.assertIsNone(fault((("a" * 12,), ("table", "a", ("a" * 12,)))))

    def test_no_term(self):
        bad_ones = ODD_VALUES + ["table", ("table",), ("table", "a"), (*A_X, ()), list(A_X), (["table"], "a", ("x",))]
        bad_ones += [("tab", "a", ("x",)), (None, "a"), ("table", None, ("x",)), ("table", "q.0", ()), ("table", "A", ())]
        bad_ones += [("table", "a", ["x"]), ("table", "a", "x"), ("table", "a", ("X",)), ("table", "a", ("@",)), ("table", "a", (1,))]
        bad_ones += [("table", "a", ("@@c",)), ("table", "a", ("x.1",)), ("table", "a", ("@x.1",)), ("call", "r", None)]
        bad_ones += [("call", "r.0", ()), ("call", ("r",), ()), ("both", A_X), ("both", A_X, A_X, A_X), ("with", A_X), ("over", A_X)]
        bad_ones += [("over", "X", A_X), ("over", ("x",), A_X), ("over", "@c", A_X), ("over", "x", A_X, A_X), ("worth",)]
        bad_ones += [("worth", 1), ("worth", None), ("worth", ["1"]), ("worth", "1", ()), ("where", A_X), ("where", None, A_X)]
        bad_ones += [("where", ("same", "x"), A_X), ("where", ["same", "x", "x"], A_X), ("where", ("like", "x", "x"), A_X)]
        bad_ones += [("where", ("same", "X", "x"), A_X), ("where", ("same", "x", "@"), A_X), ("where", ("same", "x", 1), A_X)]
        for word in ("let", "least"):
            bad_ones += [(word, "r", (), Z), (word, "r", (), Z, Z, Z), (word, "R", (), Z, Z), (word, "r.0", (), Z, Z), (word, 1, (), Z, Z)]
            for columns in (None, [], "x", {}, ("x",), (("x",),), (["x", "k"],), (("x", "k", "k"),), (("X", "k"),), (("x", "K"),)):
                bad_ones.append((word, "r", columns, Z, Z))
        for bad in bad_ones:
            self.assertEqual(fault(((), bad)), ((), "form"), bad)
            self.assertEqual(fault(((), ("both", A_X, bad))), ((1,), "form"), bad)
            self.assertEqual(fault(((), ("let", "r", (), ("over", "x", bad), None))), ((0, 0), "form"), bad)

    def test_each_term_ahead_of_its_parts(self):
        self.assertEqual(of_term(("both", ("over", "X", None), None)), ((0,), "form"))
        self.assertEqual(of_term(("both", ("over", "x", None), None)), ((0, 0), "form"))
        self.assertEqual(of_term(("let", "r", (), None, None)), ((0,), "form"))
        self.assertEqual(of_term(("where", ("same", "x", "@"), None)), ((), "form"))

    def test_forms_come_ahead_of_all_else(self):
        self.assertEqual(of_term(("both", ("table", "zz", ()), ("worth", 5))), ((1,), "form"))
        self.assertEqual(fault((("zz",), ("let", "a", (("x", "zz"),), ("worth", "zz"), None))), ((1,), "form"))

    def test_things_may_have_two_in_a_test_by_form(self):
        self.assertEqual(of_term(("where", ("same", "@c", "@d"), A_X)), ((), "test"))
        self.assertEqual(of_term(("where", ("same", "@c", "@d"), ("worth", "zz"))), ((0,), "worth"))


class ByNamesAndKinds(unittest.TestCase):
    def test_names(self):
        for term in [
            ("table", "zz", ()),
            ("table", "gone", ("x",)),
            ("call", "zz", ()),
            ("call", "a", ("x",)),
            ("let", "a", (), Z, Z),
            ("least", "gone", (), Z, Z),
        ]:
            self.assertEqual(of_term(term), ((), "name"), term)
        self.assertEqual(of_term(("let", "r", (), ("call", "r", ()), Z)), ((0,), "name"))
        self.assertEqual(of_term(("both", ("let", "r", (), Z, Z), ("call", "r", ()))), ((1,), "name"))
        self.assertEqual(of_term(("both", ("least", "r", (), Z, Z), ("call", "r", ()))), ((1,), "name"))
        self.assertEqual(of_term(("both", ("call", "r", ()), ("let", "r", (), Z, Z))), ((0,), "name"))
        self.assertEqual(of_term(("both", ("let", "r", (), Z, Z), ("let", "r", (), Z, Z))), ((1,), "name"))
        self.assertEqual(of_term(("let", "r", (), ("let", "r", (), Z, Z), Z)), ((0,), "name"))
        self.assertEqual(of_term(("let", "r", (), Z, ("least", "r", (), Z, Z))), ((1,), "name"))
        # In s of a let what is made within it may not be called behind it, in t neither.
        self.assertEqual(of_term(("let", "r", (), ("let", "s", (), Z, Z), ("call", "s", ()))), ((1,), "name"))

    def test_places(self):
        for places in ((), ("x",), ("x", "y", "z")):
            self.assertEqual(of_term(("table", "t", places)), ((), "places"))
            term = ("let", "r", (("x", "k"), ("y", "k")), T_XY, ("call", "r", places))
            self.assertEqual(of_term(term), ((1,), "places"))

    def test_kinds(self):
        self.assertEqual(of_term(("table", "u", ("x", "x"))), ((), "kind"))
        self.assertEqual(of_term(("table", "u", ("@c", "@c"))), ((), "kind"))
        self.assertEqual(of_term(("with", A_X, B_X)), ((), "kind"))
        self.assertEqual(of_term(("with", ("table", "a", ("@c",)), ("table", "b", ("@c",)))), ((1,), "kind"))
        self.assertEqual(of_term(("let", "r", (("x", "zz"),), A_X, Z)), ((), "kind"))
        # Each thing of a test has the kind of the variable beside it, tests count among the earlier ones.
        self.assertEqual(of_term(("where", ("same", "x", "@c"), ("with", A_X, ("table", "b", ("@c",))))), ((), "kind"))
        self.assertEqual(of_term(("with", ("where", ("same", "@c", "x"), A_X), ("table", "b", ("@c",)))), ((1,), "kind"))
        self.assertEqual(of_term(("with", ("where", ("same", "@c", "x"), A_X), ("where", ("same", "y", "@c"), B_Y))), ((1,), "kind"))
        # Behind an over the variable may have another kind.
        self.assertIsNone(of_term(("with", ("over", "x", A_X), B_X)))

    def test_columns(self):
        self.assertEqual(of_term(("both", A_X, A_Y)), ((), "columns"))
        self.assertEqual(of_term(("both", A_X, B_X)), ((), "columns"))
        self.assertEqual(of_term(("both", A_X, Z)), ((), "columns"))
        self.assertEqual(of_term(("both", Z, A_X)), ((), "columns"))
        self.assertEqual(of_term(("over", "y", A_X)), ((), "columns"))
        self.assertEqual(of_term(("over", "x", Z)), ((), "columns"))
        self.assertEqual(of_term(("let", "r", (("x", "k"), ("x", "k")), A_X, Z)), ((), "columns"))
        for columns in ((), (("y", "k"),), (("x", "m"),), (("x", "k"), ("y", "k"))):
            for word in ("let", "least"):
                self.assertEqual(of_term((word, "r", columns, A_X, Z)), ((), "columns"))

    def test_tests(self):
        self.assertEqual(of_term(("where", ("same", "@c", "@c"), A_X)), ((), "test"))
        self.assertEqual(of_term(("where", ("same", "x", "y"), A_X)), ((), "test"))
        self.assertEqual(of_term(("where", ("same", "y", "x"), A_X)), ((), "test"))
        self.assertEqual(of_term(("where", ("unlike", "@c", "y"), A_X)), ((), "test"))
        self.assertEqual(of_term(("where", ("unlike", "x", "y"), ("table", "u", ("x", "y")))), ((), "test"))

    def test_worths(self):
        for worth in ("4", "", "none", "Zz", "0/1"):
            self.assertEqual(of_term(("worth", worth)), ((), "worth"))
        self.assertEqual(of_term(("with", Z, ("worth", "9"))), ((1,), "worth"))

    def test_variables(self):
        for variables in ((), ("y",), ("x", "y"), ("x", "x")):
            self.assertEqual(fault((variables, A_X)), ((), "variables"))
        self.assertEqual(fault((("x",), Z)), ((), "variables"))
        self.assertEqual(fault((("zz",), ("both", Z, ("worth", "9")))), ((1,), "worth"))

    def test_which_word_comes_first(self):
        # Ahead of its parts a let is looked at for name, kind and columns, in this order.
        bad = ("worth", "zz")
        self.assertEqual(of_term(("let", "a", (("x", "zz"), ("x", "zz")), bad, bad)), ((), "name"))
        self.assertEqual(of_term(("let", "r", (("x", "k"), ("x", "zz")), bad, bad)), ((), "kind"))
        self.assertEqual(of_term(("let", "r", (("x", "k"), ("x", "k")), bad, bad)), ((), "columns"))
        self.assertEqual(of_term(("let", "r", (), bad, bad)), ((0,), "worth"))
        # Between its parts for the columns of s.
        self.assertEqual(of_term(("let", "r", (), A_X, bad)), ((), "columns"))
        self.assertEqual(of_term(("let", "r", (("x", "k"),), A_X, bad)), ((1,), "worth"))
        # All others behind their parts.
        self.assertEqual(of_term(("over", "zz", bad)), ((0,), "worth"))
        self.assertEqual(of_term(("both", A_X, bad)), ((1,), "worth"))
        self.assertEqual(of_term(("both", ("table", "zz", ()), bad)), ((0,), "name"))
        self.assertEqual(of_term(("where", ("same", "@c", "@d"), bad)), ((0,), "worth"))
        # Within one term.
        self.assertEqual(of_term(("table", "zz", ("x", "x"))), ((), "name"))
        self.assertEqual(of_term(("table", "u", ("x", "x", "x"))), ((), "places"))
        self.assertEqual(
            of_term(("where", ("same", "x", "@c"), ("with", ("table", "b", ("@c",)), A_X))), ((), "kind")
        )
        self.assertEqual(
            of_term(("where", ("same", "y", "@c"), ("with", ("table", "b", ("@c",)), A_X))), ((), "test")
        )

    def test_against_the_plain_way(self):
        rng = random.Random(14)
        words = {}
        for seed, scale in enumerate([COUNTS, turning()] + steady_scales()[:3]):
            cases = RandomQuestions(20 + seed)
            for _ in range(300):
                question = cases.question(scale, 14)
                other = cases.question(scale, 14)
                for _ in range(6):
                    bad = changed(rng, question) if rng.random() < 0.6 else exchanged(rng, question, other)
                    found = fault(bad, FRAME, scale)
                    self.assertEqual(found, plain_fault(FRAME, scale, bad), bad)
                    words[found if found is None else found[1]] = words.get(found if found is None else found[1], 0) + 1
        for word in (None, "form", "name", "places", "kind", "columns", "test", "worth", "variables"):
            self.assertGreater(words.get(word, 0), 5, word)


class Asked(unittest.TestCase):
    TERM = (
        "let",
        "r",
        (("x", "k"),),
        ("least", "s", (), ("table", "a", ("@d",)), ("table", "t", ("@c", "x"))),
        ("with", ("let", "q", (), Z, ("call", "r", ("@c",))), ("where", ("same", "@n", "y"), ("table", "u", ("@e", "y")))),
    )

    def test_names(self):
        self.assertEqual(names_of((("y",), self.TERM)), ["r", "s", "q"])
        self.assertEqual(names_of((("x",), A_X)), [])

    def test_things(self):
        # In the text of a where its s stands ahead of its test.
        self.assertEqual(things_of_question((("y",), self.TERM)), ["d", "c", "e", "n"])
        self.assertEqual(things_of_question((("x",), A_X)), [])
        self.assertEqual(things_of_question(((), ("table", "w3", ("@d", "@n", "@d")))), ["d", "n"])

    def test_terms_at_places(self):
        question = (("y",), self.TERM)
        self.assertIsNone(fault(question))
        self.assertEqual(term_at(question, ()), self.TERM)
        self.assertEqual(term_at(question, (0,)), self.TERM[3])
        self.assertEqual(term_at(question, (0, 0)), ("table", "a", ("@d",)))
        self.assertEqual(term_at(question, (1,)), self.TERM[4])
        self.assertEqual(term_at(question, (1, 0, 1)), ("call", "r", ("@c",)))
        self.assertEqual(term_at(question, (1, 1, 0)), ("table", "u", ("@e", "y")))
        self.assertEqual(term_at(((), ("over", "x", A_X)), (0,)), A_X)

    def test_places_that_lead_to_none(self):
        question = (("y",), self.TERM)
        odd_ones = [odd for odd in ODD_VALUES if odd != ()] + ["", "0", [0], [], {}, (2,), (-1,), (False,), (True,), (None,), ("0",)]
        odd_ones += [((),), (0, 0, 0), (1, 1, 1), (1, 1, 0, 0), (0, 2), (0, True), (1, False), ([0],), (0, -1), (1, 0, 1, 0)]
        for odd in odd_ones:
            for call in (lambda: term_at(question, odd), lambda: columns_at(FRAME, COUNTS, question, odd)):
                with self.assertRaises(BadQuestion, msg=odd) as caught:
                    call()
                self.assertIs(caught.exception.place, odd)
                self.assertEqual(caught.exception.word, "form")

    def test_all_places(self):
        cases = RandomQuestions(2)
        for _ in range(40):
            question = cases.question(COUNTS, 20)

            def look(place, term):
                self.assertEqual(term_at(question, place), term)
                self.assertEqual([pair[0] for pair in columns_at(FRAME, COUNTS, question, place)], self.plain_columns(term))
                below = parts(term)
                for step, part in enumerate(below):
                    look(place + (step,), part)
                with self.assertRaises(BadQuestion):
                    term_at(question, place + (len(below),))

            look((), question[1])

    def plain_columns(self, term):
        if term[0] in ("table", "call"):
            return sorted({place for place in term[2] if place[0] != "@"})
        if term[0] in ("let", "least"):
            return self.plain_columns(term[4])
        found = sorted({name for part in parts(term) for name in self.plain_columns(part)})
        return [name for name in found if term[0] != "over" or name != term[1]]


class Columns(unittest.TestCase):
    def test_told_in_full(self):
        question = (("y", "x"), ("with", A_Y, B_X))
        self.assertEqual(columns_of(FRAME, COUNTS, question), [("y", "k"), ("x", "m")])
        self.assertEqual(columns_at(FRAME, COUNTS, question, ()), [("x", "m"), ("y", "k")])
        self.assertEqual(columns_at(FRAME, COUNTS, question, (0,)), [("y", "k")])
        self.assertEqual(columns_at(FRAME, COUNTS, question, (1,)), [("x", "m")])
        self.assertEqual(columns_of(FRAME, COUNTS, ((), ONE)), [])
        term = ("let", "r", (("y", "k"), ("x", "k")), T_XY, ("call", "r", ("@c", "z")))
        self.assertEqual(columns_of(FRAME, COUNTS, (("z",), term)), [("z", "k")])
        self.assertEqual(columns_at(FRAME, COUNTS, (("z",), term), (0,)), [("x", "k"), ("y", "k")])

    def test_a_wrong_question_comes_first(self):
        for call in (columns_of, lambda *rest: columns_at(*rest, (9,)), lambda *rest: columns_at(*rest, None)):
            with self.assertRaises(BadQuestion) as caught:
                call(FRAME, COUNTS, ((), ("both", Z, ("worth", "9"))))
            self.assertEqual((caught.exception.place, caught.exception.word), ((1,), "worth"))

    def test_answers_belong_to_the_caller(self):
        question = (("x",), A_X)
        columns_of(FRAME, COUNTS, question).clear()
        columns_at(FRAME, COUNTS, question, ()).clear()
        names_of(question).append("r")
        things_of_question(question).append("c")
        self.assertEqual(columns_of(FRAME, COUNTS, question), [("x", "k")])
        self.assertEqual((names_of(question), things_of_question(question)), ([], []))


if __name__ == "__main__":
    unittest.main()

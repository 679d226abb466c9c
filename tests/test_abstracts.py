import unittest

from tests.plain import plain_uses
from tests.plainlines import many_cases, plain_trees
from tests.plainspreads import plain_between, plain_spreads
from tests.questioncases import RandomQuestions
from tests.samples import ODD_VALUES, lone, road_program, road_store, steady_scales, turning
from tests.test_asking import misfits
from worthhouse.abstracts import abstract_steps, rows_between, spreads
from worthhouse.compiling import compiled
from worthhouse.errors import NotTold, UnknownFact
from worthhouse.frames import Frame, made_frame
from worthhouse.grades import grade
from worthhouse.rounds import ruled_facts, settled
from worthhouse.rules import Program, made_program
from worthhouse.scales import CostScale, CountScale, FewScale, MostScale
from worthhouse.stores import Store
from worthhouse.texts import read_program, read_store

FRAME = Frame(["k"], [("t", ()), ("u", ("k",))], [("n", ()), ("m", ()), ("o", ("k",))])
COUNTS = CountScale(7)


def program(rules):
    return read_program(FRAME, COUNTS, rules)


class Spreads(unittest.TestCase):
    def check(self, rules, name, pairs):
        found = spreads(program(rules), name)
        self.assertEqual(list(found.items()), list(zip(["n", "m", "o"], pairs)))

    def test_told_in_full(self):
        none = ("many", 0)
        self.check("", "t", [none, none, none])
        self.check("a: n() * 1", "t", [(0, 0), none, none])
        self.check("a: n() :- t(), t() * 0", "t", [(2, 2), none, none])
        self.check("a: n() :- t(), t() * 0", "u", [(0, 0), none, none])
        self.check("a: n() :- m() * 1\nb: m() :- t() * 1\nc: m() :- t(), t(), t() * 1", "t", [(1, 3), (1, 3), none])
        self.check("a: n() :- m(), m() * 1\nb: m() :- t() * 1\nc: m() :- t(), t() * 1", "t", [(2, "many"), (1, 2), none])
        self.check("a: n() :- m(), m() * 1\nb: m() :- t(), t() * 1", "t", [("many", "many"), (2, 2), none])

    def test_exactly_three_and_four(self):
        three, four = ", ".join(["t()"] * 3), ", ".join(["t()"] * 4)
        self.check(f"a: n() :- {three} * 1\nb: m() :- {four} * 1", "t", [(3, 3), ("many", "many"), ("many", 0)])

    def test_rules_that_call_themselves(self):
        # More and more rows: there is no greatest number.
        self.check("a: n() * 1\nb: n() :- n(), t() * 1", "t", [(0, "many"), ("many", 0), ("many", 0)])
        # Round and round without a row.
        self.check("a: n() :- t() * 1\nb: n() :- n() * 1", "t", [(1, 1), ("many", 0), ("many", 0)])
        # Round and round without an end: no tree.
        self.check("a: n() :- n(), t() * 1", "t", [("many", 0), ("many", 0), ("many", 0)])
        self.check("a: n() :- m() * 1\nb: m() :- n() * 1\nc: n() :- n(), n(), t() * 1\nd: m() :- t() * 1", "t", [(1, "many"), (1, "many"), ("many", 0)])

    def test_tests_and_worths_mean_nothing(self):
        self.check("a: o(x) :- u(x), x != x * 0\nb: n() :- o(@c), o(@d) * 0", "u", [(2, 2), ("many", 0), (1, 1)])

    def test_a_frame_without_ruled_tables(self):
        self.assertEqual(spreads(Program(Frame([], [("t", ())], []), lone(), []), "t"), {})

    def test_against_the_plain_way(self):
        for made, _ in many_cases(111, steady_scales() + [turning()], 150):
            for name, _ in made.frame.told():
                found = spreads(made, name)
                self.assertEqual(found, plain_spreads(made, name))
                self.assertEqual(list(found), [table for table, _ in made.frame.ruled()])

    def test_compiled_programs_against_grades(self):
        cases = RandomQuestions(112)
        for k in range(150):
            scale = steady_scales()[k % 8]
            question = cases.question(scale)
            made, name = compiled(cases.frame, scale, question)
            for table, _ in cases.frame.told():
                self.assertEqual(spreads(made, table)[name], grade(cases.frame, scale, question, table))

    def test_not_told(self):
        for odd in ODD_VALUES + ["n", "zz", "tt"]:
            for call in (lambda: spreads(program(""), odd), lambda: abstract_steps(program(""), odd, True)):
                with self.assertRaises(NotTold) as caught:
                    call()
                self.assertIs(caught.exception.name, odd)

    def test_what_is_returned_can_be_changed(self):
        made = program("a: n() :- t() * 1")
        spreads(made, "t").clear()
        self.assertEqual(spreads(made, "t")["n"], (1, 1))


class Steps(unittest.TestCase):
    def test_told_in_full(self):
        frame = Frame(["k", "m"], [("u", ("k",)), ("t", ("m", "k"))], [("n", ("k", "m"))])
        rules = [
            ("a", ("n", ("x", "y")), (("u", ("x",)), ("t", ("y", "@c")), ("n", ("x", "y"))), (("unlike", "x", "@c"),), "3"),
            ("b", ("n", ("@c", "y")), (("t", ("y", "z")),), (), "0"),
        ]
        made = Program(frame, COUNTS, rules)
        for is_most, scale in ((True, MostScale(3)), (False, FewScale(4))):
            steps, store = abstract_steps(made, "t", is_most)
            head = ("n", ("@k", "@m"))
            told = [
                ("a", head, (("u", ("@k",)), ("t", ("@m", "@k")), head), (), "0"),
                ("b", head, (("t", ("@m", "@k")),), (), "0"),
            ]
            self.assertEqual(steps, Program(frame, scale, told))
            self.assertEqual(store.things(), [("k", "k"), ("m", "m")])
            self.assertEqual(store.rows(), [("u", ("k",), "0"), ("t", ("m", "k"), "1")])
            self.assertEqual((store.frame, store.scale), (frame, scale))

    def test_made_names_and_many_places(self):
        frame = made_frame(["k"], [("t", ("k",))], [("q.0", ("k", "k", "k", "k"))])
        made = made_program(frame, COUNTS, [("w.7", ("q.0", ("x", "x", "y", "y")), (("t", ("x",)), ("t", ("y",))), (), "2")])
        steps, store = abstract_steps(made, "t", True)
        self.assertEqual(steps.rules(), [("w.7", ("q.0", ("@k",) * 4), (("t", ("@k",)), ("t", ("@k",))), (), "0")])
        self.assertEqual(settled(steps, store)[0], {("q.0", ("k",) * 4): "2"})
        self.assertEqual(spreads(made, "t"), {"q.0": (2, 2)})

    def test_settled_worths_tell_the_spreads(self):
        for made, _ in many_cases(113, steady_scales() + [turning()], 80):
            for name, _ in made.frame.told():
                pairs = spreads(made, name)
                few, _ = settled(*abstract_steps(made, name, False))
                most, _ = settled(*abstract_steps(made, name, True))
                self.assertEqual(len(few), len(pairs))
                for (table, _), worth in few.items():
                    self.assertEqual(pairs[table][0], "many" if worth in ("4", "none") else int(worth))
                for (table, _), worth in most.items():
                    self.assertEqual(pairs[table][1], {"none": 0, "many": "many"}.get(worth) if not worth.isdigit() else int(worth))


class Between(unittest.TestCase):
    def test_told_in_full(self):
        made = program("a: o(x) :- u(x) * 1\nb: n() :- o(x), o(x), t() * 0\nc: n() :- u(x), u(y), u(@c) * 1")
        store = read_store(FRAME, COUNTS, "c of k\nd of k\nu(c) = 0\nt() = 0")
        self.assertEqual(rows_between(made, store, ("o", ("c",)), "u"), (1, 1))
        self.assertEqual(rows_between(made, store, ("o", ("d",)), "u"), ("many", 0))
        # A row that stands twice in a tree counts twice.
        self.assertEqual(rows_between(made, store, ("n", ()), "u"), (2, 3))
        self.assertEqual(rows_between(made, store, ("n", ()), "t"), (0, 1))
        self.assertEqual(rows_between(made, store, ("m", ()), "t"), ("many", 0))

    def test_above_three(self):
        made = program("a: n() :- u(x), u(x), u(x) * 1\nb: m() :- n(), u(x) * 1\nc: m() :- m(), m() * 1")
        store = read_store(FRAME, COUNTS, "c of k\nu(c) = 1")
        self.assertEqual(rows_between(made, store, ("n", ()), "u"), (3, 3))
        self.assertEqual(rows_between(made, store, ("m", ()), "u"), ("many", "many"))

    def test_any_scale(self):
        made = read_program(FRAME, turning(), "a: n() * o\nb: n() :- n(), t() * e")
        store = read_store(FRAME, turning(), "t() = e")
        self.assertEqual(rows_between(made, store, ("n", ()), "t"), (0, "many"))

    def test_against_all_uses(self):
        for made, store in many_cases(114, steady_scales() + [turning()], 60):
            uses = plain_uses(made, store)
            for name, _ in made.frame.told():
                for fact in ruled_facts(made, store)[:8]:
                    found = rows_between(made, store, fact, name)
                    self.assertEqual(found, plain_between(uses, fact, name))
                    few, most = spreads(made, name)[fact[0]]
                    if found != ("many", 0):
                        big = {"many": 4}
                        self.assertLessEqual(big.get(few, few), big.get(found[0], found[0]))
                        self.assertLessEqual(big.get(found[1], found[1]), big.get(most, most))

    def test_against_trees(self):
        def rows(uses, tree, name):
            told = [use[3] for use in uses if use[:2] == tree[:2]][0]
            return [row[0] for row in told].count(name) + sum(rows(uses, below, name) for below in tree[2])

        looked = 0
        for made, store in many_cases(115, steady_scales(), 80):
            uses = plain_uses(made, store)
            for name, _ in made.frame.told():
                for fact in ruled_facts(made, store)[:4]:
                    few, most = rows_between(made, store, fact, name)
                    for tree in plain_trees(made, store, fact, 2)[:40]:
                        number = rows(uses, tree, name)
                        self.assertTrue(few == "many" and number > 3 or few != "many" and few <= number)
                        self.assertTrue(most == "many" or number <= most)
                        looked += 1
        self.assertGreater(looked, 200)

    def test_errors(self):
        made = program("a: n() :- t() * 1")
        store = read_store(FRAME, COUNTS, "c of k\nt() = 1")
        for odd in ODD_VALUES + ["n", "zz"]:
            with self.assertRaises(NotTold) as caught:
                rows_between(made, store, None, odd)
            self.assertIs(caught.exception.name, odd)
        for odd in ODD_VALUES + [("t", ()), ("o", ("d",)), ("o", ["c"]), ["n", ()]]:
            with self.assertRaises(UnknownFact) as caught:
                rows_between(made, store, odd, "t")
            self.assertIs(caught.exception.fact, odd)
        for made, store, error in misfits():
            with self.assertRaises(error):
                rows_between(made, store, None, None)

    def test_the_road(self):
        made, store = road_program(CostScale(6)), road_store(CostScale(6))
        self.assertEqual(rows_between(made, store, ("way", ("a", "c")), "road"), (2, 2))
        self.assertEqual(rows_between(made, store, ("good", ("b",)), "road"), (0, 0))


if __name__ == "__main__":
    unittest.main()

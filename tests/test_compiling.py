import random
import unittest

from tests import test_running
from tests.plaincompile import PlainCompile
from tests.questioncases import RandomQuestions, ask_frame, plain_run
from tests.samples import ODD_VALUES, lone, pairs, steady_scales, turning
from tests.test_running import A_X, COUNTS, T_XY, WAY, line_store, store
from worthhouse.asking import settled_on
from worthhouse.columns import columns_of
from worthhouse.compiling import asked_facts, compiled, compiled_parts, compiled_run, store_over
from worthhouse.errors import BadQuestion, MixedFrames, NotSteady
from worthhouse.frames import Frame, made_frame
from worthhouse.questions import names_of, term_at
from worthhouse.rounds import settled, tables
from worthhouse.rules import Program
from worthhouse.running import run, run_at
from worthhouse.scales import CostScale, CountScale, TurnScale
from worthhouse.stores import Store

FRAME = ask_frame()
A_Y = ("table", "a", ("y",))
Z = ("table", "z0", ())


def rules(variables, term, scale=COUNTS):
    """The rules without their labels, which must be numbered."""
    program, name = compiled(FRAME, scale, (variables, term))
    assert name == "q.0"
    assert program.labels() == [f"w.{k}" for k in range(len(program))]
    return [rule[1:] for rule in program.rules()]


class Compiled(unittest.TestCase):
    def test_terms_without_made_tables(self):
        one = "1"
        q = ("q.0", ("x",))
        self.assertEqual(rules(("x",), A_X), [(q, (A_X[1:],), (), one)])
        self.assertEqual(rules(("y", "x"), T_XY), [(("q.0", ("y", "x")), (T_XY[1:],), (), one)])
        self.assertEqual(rules((), ("worth", "3")), [(("q.0", ()), (), (), "3")])
        self.assertEqual(rules((), ("table", "a", ("@c",))), [(("q.0", ()), (("a", ("@c",)),), (), one)])
        self.assertEqual(
            rules(("x",), ("both", A_X, ("both", ("over", "y", T_XY), A_X))),
            [(q, (A_X[1:],), (), one), (q, (("t", ("x", "v0")),), (), one), (q, (A_X[1:],), (), one)],
        )
        self.assertEqual(
            rules(("x", "y"), ("where", ("unlike", "x", "y"), ("with", ("where", ("same", "x", "@c"), A_X), ("with", ("worth", "2"), A_Y)))),
            [(("q.0", ("x", "y")), (A_X[1:], A_Y[1:]), (("same", "x", "@c"), ("unlike", "x", "y")), "2")],
        )
        self.assertEqual(rules((), ("with", ("worth", "2"), ("worth", "3"))), [(("q.0", ()), (), (), "6")])

    def test_overs_of_one_variable_at_several_places(self):
        term = ("with", ("over", "x", A_X), ("over", "x", ("where", ("same", "x", "@c"), ("with", A_X, ("over", "x", A_X)))))
        self.assertEqual(
            rules((), term),
            [(("q.0", ()), (("a", ("v0",)), ("a", ("v1",)), ("a", ("v2",))), (("same", "v1", "@c"),), "1")],
        )

    def test_words_that_are_taken(self):
        term = ("over", "x", ("over", "v1", ("table", "w3", ("x", "v0", "v1"))))
        self.assertEqual(rules(("v0",), term), [(("q.0", ("v0",)), (("w3", ("v2", "v0", "v3")),), (), "1")])
        # Columns of a let count, too, though they stand nowhere else; v1 is the first over's.
        term = ("let", "r", (("v0", "k"),), ("table", "a", ("v0",)), ("over", "x", ("over", "y", T_XY)))
        self.assertEqual(
            rules((), term),
            [(("q.0", ()), (("t", ("v1", "v2")),), (), "1"), (("q.1", ("v0",)), (("a", ("v0",)),), (), "1")],
        )

    def test_other_names_than_variables_do_not_take_a_word(self):
        term = ("let", "v0", (), Z, ("over", "x", ("with", A_X, ("call", "v0", ()))))
        self.assertEqual(rules((), term)[0], (("q.0", ()), (("a", ("v0",)), ("q.1", ())), (), "1"))
        self.assertEqual(rules((), ("over", "x", ("with", A_X, ("table", "a", ("@v0",)))))[0][1][0], ("a", ("v0",)))

    def test_all_ways_keep_one_word(self):
        term = ("over", "y", ("both", T_XY, ("with", A_X, A_Y)))
        self.assertEqual(
            rules(("x",), term),
            [(("q.0", ("x",)), (("t", ("x", "v0")),), (), "1"), (("q.0", ("x",)), (("a", ("x",)), ("a", ("v0",))), (), "1")],
        )

    def test_parts_of_a_with_that_have_several_ways(self):
        both = ("both", ("table", "t", ("y", "x")), ("with", A_Y, A_X))
        term = ("over", "y", ("with", both, ("over", "z", ("both", ("table", "a", ("z",)), ("table", "a", ("z",))))))
        self.assertEqual(
            rules(("x",), term),
            [
                (("q.0", ("x",)), (("q.1", ("x", "v0")), ("q.2", ())), (), "1"),
                (("q.1", ("x", "y")), (("t", ("y", "x")),), (), "1"),
                (("q.1", ("x", "y")), (("a", ("y",)), ("a", ("x",))), (), "1"),
                (("q.2", ()), (("a", ("v1",)),), (), "1"),
                (("q.2", ()), (("a", ("v1",)),), (), "1"),
            ],
        )
        self.assertEqual(compiled_parts(FRAME, COUNTS, (("x",), term)), [("q.0", ()), ("q.1", (0, 0)), ("q.2", (0, 1))])

    def test_lets_and_leasts(self):
        self.assertEqual(
            rules(("x", "y"), WAY),
            [
                (("q.0", ("x", "y")), (("q.1", ("y", "x")),), (), "1"),
                (("q.1", ("y", "x")), (("t", ("x", "y")),), (), "1"),
                (("q.1", ("y", "x")), (("t", ("x", "v0")), ("q.1", ("y", "v0"))), (), "1"),
            ],
        )
        # Also for a name that is never called; the made table of a with's part comes ahead of that for the name.
        term = ("with", ("let", "r", (), Z, ("both", Z, Z)), ("least", "s", (), ("worth", "2"), ("call", "s", ())))
        asked = ((), term)
        self.assertEqual(
            rules(*asked),
            [
                (("q.0", ()), (("q.1", ()), ("q.3", ())), (), "1"),
                (("q.1", ()), (("z0", ()),), (), "1"),
                (("q.1", ()), (("z0", ()),), (), "1"),
                (("q.2", ()), (("z0", ()),), (), "1"),
                (("q.3", ()), (), (), "2"),
            ],
        )
        self.assertEqual(compiled_parts(FRAME, COUNTS, asked), [("q.0", ()), ("q.1", (0,)), ("q.2", (0, 0)), ("q.3", (1, 0))])

    def test_frame(self):
        program, _ = compiled(FRAME, COUNTS, (("x", "y"), ("with", ("table", "u", ("x", "y")), ("both", ("table", "b", ("y",)), ("table", "b", ("y",))))))
        made = made_frame(FRAME.kinds(), FRAME.told(), [("q.0", ("k", "m")), ("q.1", ("m",))])
        self.assertTrue(program.frame == made)
        self.assertTrue(program.scale == COUNTS)
        self.assertEqual(program.frame.ruled(), [("q.0", ("k", "m")), ("q.1", ("m",))])

    def test_six_columns(self):
        wide = ("with", ("table", "w3", ("x", "y", "z")), ("table", "w3", ("u", "v", "w")))
        asked = (("w", "v", "u", "z", "y", "x"), wide)
        self.assertEqual(compiled(FRAME, COUNTS, asked)[0].frame.places("q.0"), ("k", "m", "k", "k", "m", "k"))

    def test_against_the_plain_way(self):
        for k, scale in enumerate(steady_scales() + [turning(), lone(), pairs()[3]]):
            cases = RandomQuestions(61 + k)
            for _ in range(50):
                asked = cases.question(scale, 45, columns=3)
                plain = PlainCompile(scale, asked)
                program, name = compiled(cases.frame, scale, asked)
                self.assertEqual(program.rules(), plain.rules)
                self.assertEqual(compiled_parts(cases.frame, scale, asked), plain.parts)
                self.assertEqual([table for table, _ in program.frame.ruled()], [table for table, _ in plain.parts])
                self.assertEqual((name, program.frame.told()), ("q.0", cases.frame.told()))

    def test_bad_questions(self):
        for wrong in [odd for odd in ODD_VALUES] + [((), ("worth", "9")), ((), ("both", Z, ("call", "r", ())))]:
            for call in (compiled, compiled_parts):
                with self.assertRaises(BadQuestion):
                    call(FRAME, COUNTS, wrong)
        with self.assertRaises(BadQuestion) as caught:
            compiled(FRAME, COUNTS, ((), ("both", Z, ("call", "r", ()))))
        self.assertEqual((caught.exception.place, caught.exception.word), ((1,), "name"))

    def test_answers_belong_to_the_caller(self):
        asked = (("x", "y"), WAY)
        compiled_parts(FRAME, COUNTS, asked).clear()
        compiled(FRAME, COUNTS, asked)[0].rules().clear()
        self.assertEqual(len(compiled(FRAME, COUNTS, asked)[0]), 3)
        self.assertEqual(len(compiled_parts(FRAME, COUNTS, asked)), 2)


class Stores(unittest.TestCase):
    def test_store_over(self):
        some = line_store()
        other = Frame(FRAME.kinds(), FRAME.told(), [("new", ())])
        found = store_over(other, some)
        self.assertTrue(found == Store(other, some.scale, some.things(), some.rows()))
        self.assertTrue(found.frame == other)
        self.assertEqual((found.things(), found.rows()), (some.things(), some.rows()))
        self.assertTrue(store_over(FRAME, found) == some)
        made = made_frame(FRAME.kinds(), FRAME.told(), [("q.0", ("k", "k", "k", "k"))])
        self.assertEqual(len(store_over(made, some).facts_of("q.0")), 81)

    def test_other_kinds_or_told_tables(self):
        some = line_store()
        for kinds, told in [
            (FRAME.kinds()[::-1], FRAME.told()),
            (FRAME.kinds() + ["zz"], FRAME.told()),
            (FRAME.kinds(), FRAME.told()[::-1]),
            (FRAME.kinds(), FRAME.told()[1:]),
            (FRAME.kinds(), FRAME.told() + [("zz", ())]),
            (FRAME.kinds(), [("a", ("m",))] + FRAME.told()[1:]),
        ]:
            with self.assertRaises(MixedFrames):
                store_over(Frame(kinds, told, FRAME.ruled()), some)

    def test_asked_facts(self):
        asked = (("y", "x"), ("table", "u", ("x", "y")))
        some = store(COUNTS, [], [("d", "k"), ("n", "m"), ("c", "k")])
        self.assertEqual(asked_facts(FRAME, COUNTS, some, asked), [("q.0", ("n", "d")), ("q.0", ("n", "c"))])
        self.assertEqual(asked_facts(FRAME, COUNTS, some, ((), Z)), [("q.0", ())])
        self.assertEqual(asked_facts(FRAME, COUNTS, store(COUNTS, [], []), asked), [])


class CompiledRun(unittest.TestCase):
    def test_told_in_full(self):
        found = compiled_run(FRAME, CostScale(5), line_store(), (("y", "x"), WAY))
        self.assertEqual({things: worth for things, worth in found.items() if worth != "none"}, {
            ("d", "c"): "1", ("e", "d"): "2", ("e", "c"): "3",
        })
        self.assertEqual(list(found)[:4], [("c", "c"), ("c", "d"), ("c", "e"), ("d", "c")])
        self.assertEqual(compiled_run(FRAME, COUNTS, store(COUNTS, []), ((), ("worth", "3"))), {(): "3"})

    def test_against_run_and_the_engines(self):
        for k, scale in enumerate(steady_scales() + [turning(), TurnScale(6), pairs()[2]]):
            is_steady = k < len(steady_scales())
            cases = RandomQuestions(71 + k)
            for _ in range(25):
                asked = cases.question(scale, 25, with_leasts=is_steady, columns=2)
                some = cases.store(scale)
                found = compiled_run(cases.frame, scale, some, asked)
                self.assertEqual(list(found.items()), list(run(cases.frame, scale, some, asked).items()))
                self.assertEqual(found, plain_run(some, asked, dict(columns_of(cases.frame, scale, asked)))[0])
                self.check_engines(cases, scale, some, asked, found, is_steady)

    def check_engines(self, cases, scale, some, asked, found, is_steady):
        """By settled_on, or by as many rounds as there are made tables, as point S6.4 tells it."""
        program, name = compiled(cases.frame, scale, asked)
        over = store_over(program.frame, some)
        facts = asked_facts(cases.frame, scale, some, asked)
        self.assertEqual(facts, over.facts_of(name))
        if is_steady:
            table = settled_on(program, over, facts)[0]
            whole = settled(program, over)[0]
        else:
            whole = table = tables(program, over, len(program.frame.ruled()))[-1]
        self.assertEqual([table[fact] for fact in facts], list(found.values()))
        for made, place in compiled_parts(cases.frame, scale, asked):
            try:
                answers = run_at(cases.frame, scale, some, asked, place)
            except BadQuestion:
                continue
            self.check_part(cases, asked, whole, made, place, answers)

    def check_part(self, cases, asked, whole, made, place, answers):
        """The program's worths for a made table are those of its term, whatever the order of its places."""
        worths = {things: worth for (table, things), worth in whole.items() if table == made}
        self.assertEqual(sorted(worths.values()), sorted(answers.values()))
        if self.columns_ascend(asked, place):
            self.assertEqual(worths, answers)

    def columns_ascend(self, asked, place):
        if not place:
            return list(asked[0]) == sorted(asked[0])
        above = term_at(asked, place[:-1])
        if above[0] in ("let", "least"):
            names = [variable for variable, _ in above[2]]
            return names == sorted(names)
        return True

    def test_tests_between_atoms_that_share_no_variable(self):
        some = store(COUNTS, [("a", ("c",), "2"), ("a", ("d",), "3")], [("c", "k"), ("d", "k"), ("e", "k")])
        for p, q in (("x", "y"), ("y", "x")):
            apart = ("where", ("unlike", p, q), ("with", A_X, A_Y))
            together = ("where", ("same", p, q), ("with", A_X, A_Y))
            for call in (run, compiled_run):
                self.assertEqual(call(FRAME, COUNTS, some, (("x", "y"), apart))[("c", "d")], "6")
                self.assertEqual(call(FRAME, COUNTS, some, (("x",), ("over", "y", apart))), {("c",): "6", ("d",): "6", ("e",): "0"})
                self.assertEqual(call(FRAME, COUNTS, some, (("y",), ("over", "x", together))), {("c",): "4", ("d",): "7", ("e",): "0"})
                self.assertEqual(call(FRAME, COUNTS, some, ((), ("over", "x", ("over", "y", together)))), {(): "7"})
                self.assertEqual(call(FRAME, COUNTS, some, ((), ("over", "y", ("over", "x", ("with", apart, ("worth", "0")))))), {(): "0"})
        three = ("with", ("table", "a", ("z",)), ("where", ("unlike", "x", "y"), ("with", A_X, A_Y)))
        three = ("where", ("unlike", "z", "x"), ("where", ("same", "y", "z"), three))
        for order in (("x", "y", "z"), ("z", "y", "x"), ("y", "x", "z")):
            term = three
            for name in order:
                term = ("over", name, term)
            costs = store(CostScale(6), [("a", ("c",), "1"), ("a", ("d",), "2")])
            self.assertEqual(compiled_run(FRAME, CostScale(6), costs, ((), term)), {(): "4"})
            self.assertEqual(run(FRAME, CostScale(6), costs, ((), term)), {(): "4"})

    def test_very_many_uses(self):
        # The one rule has twelve variables besides those of its head, so there are 3 ** 12 uses.
        term = A_X
        for _ in range(12):
            term = ("with", ("over", "y", A_Y), term)
        some = store(CountScale(2), [("a", (thing,), "1") for thing in "cde"], [(thing, "k") for thing in "cde"])
        self.assertEqual(compiled_run(FRAME, CountScale(2), some, (("x",), term)), {("c",): "2", ("d",): "2", ("e",): "2"})
        chain = A_X
        for _ in range(20):
            chain = ("over", "y", ("with", T_XY, ("over", "x", ("where", ("same", "x", "y"), ("with", A_Y, chain)))))
        rows = [("t", (one, other), "1") for one in "cd" for other in "cd"] + [("a", (thing,), "1") for thing in "cd"]
        some = store(TurnScale(5), rows, [("c", "k"), ("d", "k")])
        asked = (("x",), chain)
        self.assertEqual(compiled_run(FRAME, TurnScale(5), some, asked), run(FRAME, TurnScale(5), some, asked))

    def test_many_terms(self):
        rng = random.Random(81)
        cases = RandomQuestions(82, [("c", "k"), ("n", "m"), ("d", "k"), ("e", "k")])
        for scale in (CountScale(7), CostScale(6)):
            for _ in range(12):
                asked = cases.question(scale, 120, columns=rng.choice([2, 4]))
                some = cases.store(scale, share=0.4)
                self.assertEqual(compiled_run(cases.frame, scale, some, asked), run(cases.frame, scale, some, asked))
                self.assertGreaterEqual(len(compiled_parts(cases.frame, scale, asked)), len(names_of(asked)) + 1)


class CompiledOverSums(test_running.OverSums):
    RUN = staticmethod(compiled_run)


class CompiledErrors(test_running.Errors):
    CALLS = [compiled_run, asked_facts]

    def test_not_steady_only_with_a_least(self):
        scale = turning()
        some = Store(FRAME, scale, [("c", "k")], [("a", ("c",), "o")])
        self.assertEqual(compiled_run(FRAME, scale, some, (("x",), ("both", A_X, A_X))), {("c",): "e"})
        asked = ((), ("let", "r", (), ("least", "s", (), Z, Z), Z))
        for call in self.CALLS:
            with self.assertRaises(NotSteady):
                call(FRAME, scale, some, asked)

    def test_nothing_is_changed_or_shared(self):
        asked = (("x", "y"), WAY)
        compiled_run(FRAME, CostScale(5), line_store(), asked).clear()
        asked_facts(FRAME, CostScale(5), line_store(), asked).clear()
        self.assertEqual(len(compiled_run(FRAME, CostScale(5), line_store(), asked)), 9)
        self.assertEqual(len(asked_facts(FRAME, CostScale(5), line_store(), asked)), 9)

    def test_programs_can_be_made_by_callers_no_more(self):
        # Made names are no words, so a plain program cannot have these rules.
        program, _ = compiled(FRAME, COUNTS, (("x",), A_X))
        with self.assertRaises(ValueError):
            Program(program.frame, COUNTS, program.rules())


if __name__ == "__main__":
    unittest.main()

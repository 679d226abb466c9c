import itertools
import random
import unittest

from tests.plaincheck import parts
from tests.questioncases import RandomQuestions, ask_frame, plain_run
from tests.samples import ODD_VALUES, lone, pairs, steady_scales, turning, yes_no
from worthhouse.columns import columns_at, columns_of
from worthhouse.errors import BadQuestion, MixedFrames, MixedScales, NotSteady, UnknownThing
from worthhouse.frames import Frame
from worthhouse.grades import grade
from worthhouse.questions import names_of, term_at
from worthhouse.running import rounds_of, run, run_at
from worthhouse.scalemaps import all_maps
from worthhouse.scales import CostScale, CountScale, LevelScale, TurnScale
from worthhouse.stores import Store

FRAME = ask_frame()
COSTS = CostScale(5)
COUNTS = CountScale(7)
A_X = ("table", "a", ("x",))
T_XY = ("table", "t", ("x", "y"))
WAY = (
    "least",
    "r",
    (("y", "k"), ("x", "k")),
    ("both", T_XY, ("over", "z", ("with", ("table", "t", ("x", "z")), ("call", "r", ("y", "z"))))),
    ("call", "r", ("y", "x")),
)


def store(scale, rows, things=(("c", "k"), ("n", "m"), ("d", "k"))):
    return Store(FRAME, scale, list(things), rows)


def line_store(scale=COSTS):
    return store(scale, [("t", ("c", "d"), "1"), ("t", ("d", "e"), "2"), ("a", ("d",), "3")], [("c", "k"), ("d", "k"), ("e", "k")])


def all_places(term, place=()):
    yield place
    for step, part in enumerate(parts(term)):
        yield from all_places(part, place + (step,))


class Run(unittest.TestCase):
    def test_each_form(self):
        some = store(COUNTS, [("a", ("c",), "2"), ("t", ("c", "d"), "3"), ("t", ("d", "d"), "1"), ("b", ("n",), "4"), ("z0", (), "2")])

        def answers(variables, term):
            return run(FRAME, COUNTS, some, (variables, term))

        self.assertEqual(answers(("x",), A_X), {("c",): "2", ("d",): "0"})
        self.assertEqual(answers((), ("table", "a", ("@c",))), {(): "2"})
        self.assertEqual(answers((), ("table", "a", ("@d",))), {(): "0"})
        self.assertEqual(answers((), ("worth", "5")), {(): "5"})
        self.assertEqual(answers(("x",), ("table", "t", ("x", "x"))), {("c",): "0", ("d",): "1"})
        self.assertEqual(answers(("x",), ("table", "t", ("x", "@d"))), {("c",): "3", ("d",): "1"})
        self.assertEqual(answers(("x",), ("both", A_X, ("table", "t", ("x", "@d")))), {("c",): "5", ("d",): "1"})
        self.assertEqual(answers(("x",), ("with", A_X, ("table", "t", ("x", "@d")))), {("c",): "6", ("d",): "0"})
        self.assertEqual(answers(("x",), ("over", "y", T_XY)), {("c",): "3", ("d",): "1"})
        self.assertEqual(answers(("y",), ("over", "x", T_XY)), {("c",): "0", ("d",): "4"})
        self.assertEqual(answers((), ("over", "x", ("over", "y", T_XY))), {(): "4"})
        self.assertEqual(answers(("x",), ("with", A_X, ("table", "z0", ()))), {("c",): "4", ("d",): "0"})
        self.assertEqual(answers(("x",), ("where", ("same", "x", "@d"), ("table", "t", ("x", "x")))), {("c",): "0", ("d",): "1"})
        self.assertEqual(answers(("x",), ("where", ("unlike", "@c", "x"), A_X)), {("c",): "0", ("d",): "0"})
        self.assertEqual(answers(("x",), ("where", ("unlike", "x", "x"), A_X)), {("c",): "0", ("d",): "0"})
        self.assertEqual(answers(("x",), ("let", "r", (("y", "k"),), ("table", "a", ("y",)), ("call", "r", ("x",)))), {("c",): "2", ("d",): "0"})
        self.assertEqual(
            answers(("x",), ("let", "r", (("x", "k"), ("y", "k")), ("table", "t", ("y", "x")), ("call", "r", ("x", "@c")))),
            {("c",): "0", ("d",): "3"},
        )

    def test_order_of_answers(self):
        some = store(COUNTS, [("u", ("d", "n"), "1")], [("d", "k"), ("o", "m"), ("c", "k"), ("n", "m")])
        found = run(FRAME, COUNTS, some, (("x", "y"), ("table", "u", ("x", "y"))))
        self.assertEqual(list(found), [("d", "o"), ("d", "n"), ("c", "o"), ("c", "n")])
        found = run(FRAME, COUNTS, some, (("y", "x"), ("table", "u", ("x", "y"))))
        self.assertEqual(list(found.items()), [(("o", "d"), "0"), (("o", "c"), "0"), (("n", "d"), "1"), (("n", "c"), "0")])

    def test_kinds_without_things(self):
        none = store(COUNTS, [], [("n", "m")])
        self.assertEqual(run(FRAME, COUNTS, none, (("x",), A_X)), {})
        self.assertEqual(run(FRAME, COUNTS, none, ((), ("over", "x", A_X))), {(): "0"})
        self.assertEqual(run(FRAME, COUNTS, none, (("y",), ("over", "x", ("table", "u", ("x", "y"))))), {("n",): "0"})

    def test_least(self):
        found = run(FRAME, COSTS, line_store(), (("x", "y"), WAY))
        self.assertEqual({things: worth for things, worth in found.items() if worth != "none"}, {
            ("c", "d"): "1", ("d", "e"): "2", ("c", "e"): "3",
        })
        self.assertEqual(rounds_of(FRAME, COSTS, line_store(), (("x", "y"), WAY)), {"r": 2})

    def test_leasts_that_call_themselves_once_twice_or_never(self):
        some = store(COUNTS, [("z0", (), "1")])
        z = ("table", "z0", ())
        r = ("call", "r", ())
        for s, worth, rounds in [
            (z, "1", 1),
            (("worth", "0"), "0", 0),
            (r, "0", 0),
            (("both", z, r), "7", 7),
            (("both", z, ("with", r, r)), "7", 4),
            (("both", z, ("with", r, ("worth", "0"))), "1", 1),
        ]:
            question = ((), ("least", "r", (), s, r))
            self.assertEqual(run(FRAME, COUNTS, some, question), {(): worth}, s)
            self.assertEqual(rounds_of(FRAME, COUNTS, some, question), {"r": rounds}, s)

    def test_a_least_within_s_is_worked_out_anew(self):
        # The inner one is r summed up to a rest: as r goes 0, 1, 7 the inner one is 0, 7, 7.
        some = store(COUNTS, [("z0", (), "1")])
        inner = ("least", "s", (), ("both", ("call", "r", ()), ("call", "s", ())), ("call", "s", ()))
        question = ((), ("least", "r", (), ("both", ("table", "z0", ()), inner), ("call", "r", ())))
        self.assertEqual(run(FRAME, COUNTS, some, question), {(): "7"})
        self.assertEqual(rounds_of(FRAME, COUNTS, some, question), {"r": 2})

    def test_against_the_plain_way(self):
        for seed, things in [(41, None), (42, [("c", "k"), ("n", "m")]), (43, [("n", "m"), ("d", "k"), ("c", "k"), ("o", "m")])]:
            cases = RandomQuestions(seed, things)
            for k, scale in enumerate(steady_scales() + [turning(), TurnScale(6), pairs()[2]]):
                is_steady = k < len(steady_scales())
                for _ in range(12):
                    question = cases.question(scale, 22, with_leasts=is_steady, columns=3)
                    some = cases.store(scale)
                    kinds = dict(columns_of(cases.frame, scale, question))
                    expected, rounds = plain_run(some, question, kinds)
                    found = run(cases.frame, scale, some, question)
                    self.assertEqual(found, expected, question)
                    self.assertEqual(list(found), list(expected))
                    if is_steady:
                        self.check_rounds(cases.frame, scale, some, question, rounds)

    def check_rounds(self, frame, scale, some, question, rounds):
        found = rounds_of(frame, scale, some, question)
        self.assertEqual(set(found), set(outer_leasts(question[1])))
        for name in found:
            if name in rounds:
                self.assertEqual(found[name], rounds[name], question)

    def test_many_terms(self):
        term = A_X
        for k in range(160):
            term = [("both", ("worth", "0"), ("over", "x", term)), ("where", ("same", "x", "@c"), ("with", A_X, term))][k % 2]
        term = ("where", ("same", "x", "@c"), ("with", A_X, term))
        self.assertEqual(run(FRAME, COUNTS, store(COUNTS, [("a", ("c",), "1")]), (("x",), term)), {("c",): "1", ("d",): "0"})
        term = ("table", "z0", ())
        for k in range(80):
            term = ("let", f"r{k}", (), term, ("call", f"r{k}", ()))
        self.assertEqual(run(FRAME, COUNTS, store(COUNTS, [("z0", (), "4")]), ((), term)), {(): "4"})

    def test_scale_of_one_worth(self):
        some = store(lone(), [("a", ("c",), "w")])
        question = ((), ("least", "r", (), ("both", ("call", "r", ()), ("worth", "w")), ("call", "r", ())))
        self.assertEqual(run(FRAME, lone(), some, question), {(): "w"})
        self.assertEqual(rounds_of(FRAME, lone(), some, question), {"r": 0})


def outer_leasts(term):
    if term[0] == "least":
        return [term[1]] + outer_leasts(term[4])
    return [name for part in parts(term) for name in outer_leasts(part)]


class Rounds(unittest.TestCase):
    def test_leasts_that_are_counted(self):
        z = ("table", "z0", ())

        def least(name, s, t=("worth", "1")):
            return ("least", name, (), s, t)

        some = store(COUNTS, [("z0", (), "3")])
        for term, expected in [
            (z, {}),
            (least("r", z), {"r": 1}),
            (least("r", least("s", z)), {"r": 1}),
            (least("r", z, least("s", z)), {"r": 1, "s": 1}),
            (least("r", ("let", "p", (), least("s", z), z), least("q", ("worth", "0"))), {"r": 1, "q": 0}),
            (("let", "p", (), least("s", ("both", z, ("call", "s", ()))), ("worth", "0")), {"s": 3}),
            (("both", least("r", z), least("s", least("q", z, least("p", z)))), {"r": 1, "s": 1}),
        ]:
            self.assertEqual(rounds_of(FRAME, COUNTS, some, ((), term)), expected, term)


class RunAt(unittest.TestCase):
    def test_told_in_full(self):
        question = (("x", "y"), WAY)
        self.assertEqual(run_at(FRAME, COSTS, line_store(), question, ()), run(FRAME, COSTS, line_store(), question))
        found = run_at(FRAME, COSTS, line_store(), question, (0, 0))
        self.assertEqual(found[("c", "d")], "1")
        # Columns stand in ascending order, not as in the question.
        found = run_at(FRAME, COSTS, line_store(), (("y", "x"), ("with", T_XY, ("worth", "1"))), ())
        self.assertEqual(found[("c", "d")], "2")
        self.assertEqual(run_at(FRAME, COSTS, line_store(), (("y", "x"), ("with", T_XY, ("worth", "1"))), (1,)), {(): "1"})

    def test_names_that_are_called(self):
        question = (("x", "y"), WAY)
        for place in [(0,), (0, 1), (0, 1, 0), (0, 1, 0, 1), (1,)]:
            with self.assertRaises(BadQuestion) as caught:
                run_at(FRAME, COSTS, line_store(), question, place)
            self.assertEqual((caught.exception.place, caught.exception.word), (place, "name"))

    def test_all_places_against_questions_of_their_own(self):
        cases = RandomQuestions(44)
        for scale in steady_scales()[:6]:
            for _ in range(15):
                question = cases.question(scale, 20)
                some = cases.store(scale)
                for place in all_places(question[1]):
                    term = term_at(question, place)
                    columns = columns_at(cases.frame, scale, question, place)
                    own = (tuple(variable for variable, _ in columns), term)
                    if set(self.called(term)) - set(names_of(own)):
                        with self.assertRaises(BadQuestion) as caught:
                            run_at(cases.frame, scale, some, question, place)
                        self.assertEqual((caught.exception.place, caught.exception.word), (place, "name"))
                    else:
                        found = run_at(cases.frame, scale, some, question, place)
                        self.assertEqual(list(found.items()), list(run(cases.frame, scale, some, own).items()))

    def called(self, term):
        own = [term[1]] if term[0] == "call" else []
        return own + [name for part in parts(term) for name in self.called(part)]

    def test_places_that_lead_to_none(self):
        question = (("x", "y"), WAY)
        for odd in [odd for odd in ODD_VALUES if odd != ()] + [(2,), (True,), (0, 0, 0), [0]]:
            with self.assertRaises(BadQuestion) as caught:
                run_at(FRAME, COSTS, line_store(), question, odd)
            self.assertIs(caught.exception.place, odd)
            self.assertEqual(caught.exception.word, "form")


class Errors(unittest.TestCase):
    CALLS = [run, rounds_of, lambda *rest: run_at(*rest, None), lambda *rest: run_at(*rest, (0,))]
    LEAST = ("least", "r", (), ("table", "a", ("@zz",)), ("with", ("table", "a", ("@yy",)), ("call", "r", ())))

    def raised(self, error, *rest):
        for call in self.CALLS:
            with self.assertRaises(error) as caught:
                call(*rest)
            yield caught.exception

    def test_each_in_its_turn(self):
        scale = TurnScale(3)
        other = Frame(["k"], [("a", ("k",))], [])
        good = Store(FRAME, scale, [("c", "k")], [])
        for wrong in (None, ((), ("table", "zz", ())), (("x",), self.LEAST)):
            for raised in self.raised(BadQuestion, FRAME, scale, Store(other, COUNTS, [], []), wrong):
                self.assertEqual(raised.place, ())
        question = ((), self.LEAST)
        list(self.raised(MixedFrames, FRAME, scale, Store(other, COUNTS, [], []), question))
        list(self.raised(MixedScales, FRAME, scale, Store(FRAME, COUNTS, [], []), question))
        for raised in self.raised(UnknownThing, FRAME, scale, good, question):
            self.assertEqual(raised.name, "zz")
        for things, name in [([("yy", "k")], "zz"), ([("zz", "k")], "yy"), ([("zz", "m"), ("yy", "k")], "zz")]:
            for raised in self.raised(UnknownThing, FRAME, scale, Store(FRAME, scale, things, []), question):
                self.assertEqual(raised.name, name)
        list(self.raised(NotSteady, FRAME, scale, Store(FRAME, scale, [("zz", "k"), ("yy", "k")], []), question))

    def test_things_of_tests(self):
        question = (("x",), ("where", ("same", "@n", "x"), A_X))
        for raised in self.raised(UnknownThing, FRAME, COUNTS, store(COUNTS, []), question):
            self.assertEqual(raised.name, "n")

    def test_not_steady_only_with_a_least(self):
        scale = turning()
        some = Store(FRAME, scale, [("c", "k")], [("a", ("c",), "o")])
        self.assertEqual(run(FRAME, scale, some, (("x",), ("both", A_X, A_X))), {("c",): "e"})
        self.assertEqual(rounds_of(FRAME, scale, some, (("x",), A_X)), {})
        question = (("x",), ("with", A_X, ("let", "r", (), ("least", "s", (), ("worth", "o"), ("worth", "o")), ("worth", "o"))))
        with self.assertRaises(NotSteady):
            run_at(FRAME, scale, some, question, (0,))

    def test_equal_frames_and_scales_will_do(self):
        some = Store(ask_frame(), CostScale(5), [("c", "k")], [])
        self.assertEqual(run(FRAME, COSTS, some, (("x",), A_X)), {("c",): "none"})

    def test_nothing_is_changed_or_shared(self):
        question = (("x", "y"), WAY)
        run(FRAME, COSTS, line_store(), question).clear()
        rounds_of(FRAME, COSTS, line_store(), question).clear()
        self.assertEqual(len(run(FRAME, COSTS, line_store(), question)), 9)
        self.assertEqual(rounds_of(FRAME, COSTS, line_store(), question), {"r": 2})


class OverSums(unittest.TestCase):
    """Point S5.8; the answers of compiled_run are looked at in the same way."""

    RUN = staticmethod(run)

    def sum_of(self, name, stores):
        scale, rows = stores[0].scale, {}
        for some in stores:
            for table, things, worth in some.rows():
                if table == name:
                    rows[things] = scale.plus(rows[things], worth) if things in rows else worth
        return rows

    def test_sums_of_stores(self):
        seen = {}
        rng = random.Random(45)
        cases = RandomQuestions(46, [("c", "k"), ("n", "m")])
        for k in range(400):
            scale = [COUNTS, turning(), TurnScale(4), CostScale(2), LevelScale(3)][k % 5]
            question = cases.question(scale, 9, with_leasts=False, columns=1)
            name = rng.choice(["a", "b", "t", "z0"])
            few, most = grade(cases.frame, scale, question, name)
            base = cases.store(scale)
            others = [row for row in base.rows() if row[0] != name]
            bare = base.with_rows(others)
            if few != 0:
                self.assertEqual(set(self.RUN(cases.frame, scale, bare, question).values()) - {scale.nought}, set())
            if most == "many":
                continue
            many = [cases.store(scale) for _ in range(most + 1)]
            together = [[], []]
            for chosen in itertools.product([False, True], repeat=most + 1):
                part = [some for some, is_in in zip(many, chosen) if is_in]
                rows = self.sum_of(name, part) if part else {}
                some = base.with_rows(others + [(name, things, worth) for things, worth in rows.items()])
                together[len(part) % 2].append(self.RUN(cases.frame, scale, some, question))
            totals = [
                {things: scale.total([answers[things] for answers in side]) for things in side[0]} for side in together
            ]
            self.assertEqual(totals[0], totals[1], question)
            seen[(few, most)] = True
        self.assertTrue({(0, 0), (1, 1), (0, 1), (2, 2)} <= set(seen))

    def test_led_along_maps(self):
        led = 0
        cases = RandomQuestions(47)
        sources = [scale for scale in steady_scales() if len(scale) <= 5]
        for source, target in itertools.product(sources * 3, [yes_no(), CountScale(1), CostScale(1), LevelScale(2)]):
            question = cases.question(source, 14)
            some = cases.store(source)
            for m in all_maps(source, target)[:2]:
                other = Store(cases.frame, target, some.things(), [(n, things, m(worth)) for n, things, worth in some.rows()])
                answers = self.RUN(cases.frame, source, some, question)
                self.assertEqual(
                    self.RUN(cases.frame, target, other, (question[0], led_term(m, question[1]))),
                    {things: m(worth) for things, worth in answers.items()},
                )
                led += 1
        self.assertGreater(led, 10)


def led_term(m, term):
    if term[0] == "worth":
        return ("worth", m(term[1]))
    many = len(parts(term))
    return term[: len(term) - many] + tuple(led_term(m, part) for part in parts(term))


if __name__ == "__main__":
    unittest.main()

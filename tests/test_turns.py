import random
import unittest

from tests.plain import plain_settled
from tests.plainlines import many_cases
from tests.samples import ODD_VALUES, steady_scales
from tests.turncases import FORMS, some_turns, with_a_twin
from worthhouse.compiling import store_over
from worthhouse.errors import BadTurn, UnknownName
from worthhouse.frames import Frame, made_frame
from worthhouse.levels import tables_under
from worthhouse.rounds import settled
from worthhouse.rules import Program, made_program
from worthhouse.scales import CountScale
from worthhouse.texts import read_program
from worthhouse.turns import all_turns, kept_names, planned, turned

COUNTS = CountScale(7)
FRAME = Frame(
    ["k", "m"],
    [("e", ("k", "k")), ("f", ("m",)), ("t", ())],
    [("p", ("k", "k")), ("n", ()), ("o", ("k",)), ("d", ("k", "m", "k")), ("z", ("k",))],
)


def program(rules, frame=FRAME, scale=COUNTS):
    return read_program(frame, scale, rules)


def atom(text):
    name, _, places = text.removesuffix(")").partition("(")
    return (name, tuple(places.split()))


def rule(label, head, body=(), tests=(), worth="1"):
    return (label, atom(head), tuple(atom(one) for one in body), tuple(tests), worth)


class Checked(unittest.TestCase):
    def check(self, before, turn, rules, frame=FRAME):
        made = before if isinstance(before, Program) else program(before)
        behind = turned(made, turn)
        self.assertEqual(behind.rules(), rules)
        self.assertEqual(behind, made_program(frame, made.scale, rules))
        self.assertEqual(behind.scale, made.scale)


class Unfold(Checked):
    def test_told_in_full(self):
        self.check(
            "a: n() :- t(), p(x y), o(y) * 2\nb: p(x z) :- e(x y), e(y z), y != z * 3\nc: p(v v) :- o(v) * 1\nd: o(x) :- e(x x) * 1",
            ("unfold", "a", 1),
            [
                rule("a.0", "n()", ["t()", "e(x u2)", "e(u2 y)", "o(y)"], [("unlike", "u2", "y")], "6"),
                rule("a.1", "n()", ["t()", "o(x)", "o(x)"], [], "2"),
                rule("b", "p(x z)", ["e(x y)", "e(y z)"], [("unlike", "y", "z")], "3"),
                rule("c", "p(v v)", ["o(v)"]),
                rule("d", "o(x)", ["e(x x)"]),
            ],
        )

    def test_new_words_leave_the_turned_rules_variables(self):
        self.check(
            "a: o(u1) :- p(u1 x) * 1\nb: p(u0 u1) :- e(u0 u1), e(u1 w) * 1",
            ("unfold", "a", 0),
            [
                rule("a.0", "o(u1)", ["e(u1 x)", "e(x u3)"]),
                rule("b", "p(u0 u1)", ["e(u0 u1)", "e(u1 w)"]),
            ],
        )

    def test_a_rule_by_itself(self):
        # The rule is one of those that are put in, as it stands ahead of the turn; then it is gone.
        self.check(
            "a: p(x z) :- p(x y), e(y z) * 2\nb: p(x y) :- e(x y) * 3",
            ("unfold", "a", 0),
            [
                rule("a.0", "p(x z)", ["p(x u2)", "e(u2 y)", "e(y z)"], [], "4"),
                rule("a.1", "p(x z)", ["e(x y)", "e(y z)"], [], "6"),
                rule("b", "p(x y)", ["e(x y)"], [], "3"),
            ],
        )

    def test_a_table_without_rules(self):
        self.check("a: n() :- z(x) * 1\nb: n() * 1", ("unfold", "a", 0), [rule("b", "n()")])

    def test_a_rule_without_a_body(self):
        self.check("a: n() :- o(x), e(x y) * 1\nb: o(@c) * 2", ("unfold", "a", 0), [rule("a.0", "n()", ["e(@c y)"], [], "2"), rule("b", "o(@c)", [], [], "2")])

    def test_a_variable_twice_in_a_head(self):
        # Of two variables of the turned rule the one that stands later in it goes.
        self.check("a: o(y) :- p(x y) * 1\nb: p(v v) :- o(v) * 1", ("unfold", "a", 0), [rule("a.0", "o(y)", ["o(y)"]), rule("b", "p(v v)", ["o(v)"])])
        self.check("a: n() :- p(x y), e(x y) * 1\nb: p(v v) :- o(v) * 1", ("unfold", "a", 0), [rule("a.0", "n()", ["o(x)", "e(x x)"]), rule("b", "p(v v)", ["o(v)"])])

    def test_things_that_are_met(self):
        head = "b: p(@c @c) :- t() * 1\nc: p(v v) :- o(v) * 1\nd: p(v @d) :- o(v) * 1"
        stay = [rule("b", "p(@c @c)", ["t()"]), rule("c", "p(v v)", ["o(v)"]), rule("d", "p(v @d)", ["o(v)"])]
        self.check(f"a: n() :- p(x y), e(y x) * 1\n{head}", ("unfold", "a", 0), [
            rule("a.0", "n()", ["t()", "e(@c @c)"]), rule("a.1", "n()", ["o(x)", "e(x x)"]), rule("a.2", "n()", ["o(x)", "e(@d x)"]), *stay])
        self.check(f"a: n() :- p(@c y), e(y y) * 1\n{head}", ("unfold", "a", 0), [
            rule("a.0", "n()", ["t()", "e(@c @c)"]), rule("a.1", "n()", ["o(@c)", "e(@c @c)"]), rule("a.2", "n()", ["o(@c)", "e(@d @d)"]), *stay])
        # Two things that are unlike give no rule: no label is used up by that.
        self.check(f"a: n() :- p(@d @d) * 1\n{head}", ("unfold", "a", 0), [
            rule("a.0", "n()", ["o(@d)"]), rule("a.1", "n()", ["o(@d)"]), *stay])
        self.check(f"a: n() :- p(@c @d) * 1\n{head}", ("unfold", "a", 0), [rule("a.0", "n()", ["o(@c)"]), *stay])
        self.check(f"a: n() :- p(x x), o(x) * 1\n{head}", ("unfold", "a", 0), [
            rule("a.0", "n()", ["t()", "o(@c)"]), rule("a.1", "n()", ["o(x)", "o(x)"]), rule("a.2", "n()", ["o(@d)", "o(@d)"]), *stay])

    def test_tests_that_go_and_rules_that_go(self):
        heads = "b: o(@c) :- t() * 1\nc: o(@d) * 1\nd: o(v) :- p(v w), v != @c, w = w * 1"
        stay = [rule("b", "o(@c)", ["t()"]), rule("c", "o(@d)"), rule("d", "o(v)", ["p(v w)"], [("unlike", "v", "@c"), ("same", "w", "w")])]
        self.check(f"a: n() :- o(x), x != @c * 1\n{heads}", ("unfold", "a", 0), [
            rule("a.0", "n()"),
            rule("a.1", "n()", ["p(x u1)"], [("unlike", "x", "@c"), ("unlike", "x", "@c"), ("same", "u1", "u1")]),
            *stay])
        self.check(f"a: n() :- o(x), @c = x * 1\n{heads}", ("unfold", "a", 0), [
            rule("a.0", "n()", ["t()"]), rule("a.1", "n()", ["p(x u1)"], [("same", "@c", "x"), ("unlike", "x", "@c"), ("same", "u1", "u1")]), *stay])
        # The test of the rule s does not hold for the thing in the atom.
        self.check(f"a: n() :- o(@c) * 1\n{heads}", ("unfold", "a", 0), [rule("a.0", "n()", ["t()"]), *stay])
        # A test of one variable twice stays, also if it never holds.
        self.check("a: n() :- p(x y), x != y * 1\nb: p(v v) :- o(v) * 1", ("unfold", "a", 0), [
            rule("a.0", "n()", ["o(x)"], [("unlike", "x", "x")]), rule("b", "p(v v)", ["o(v)"])])

    def test_worths_are_multiplied(self):
        self.check("a: n() :- o(x) * 2\nb: o(x) :- e(x x) * 0\nc: o(x) :- e(x x) * 3", ("unfold", "a", 0), [
            rule("a.0", "n()", ["e(x x)"], [], "0"), rule("a.1", "n()", ["e(x x)"], [], "6"), rule("b", "o(x)", ["e(x x)"], [], "0"), rule("c", "o(x)", ["e(x x)"], [], "3")])

    def test_the_first_of_two_atoms_that_are_the_same(self):
        self.check("a: n() :- o(x), o(x) * 1\nb: o(x) :- e(x y) * 1", ("unfold", "a", 1), [
            rule("a.0", "n()", ["o(x)", "e(x u1)"]), rule("b", "o(x)", ["e(x y)"])])


class Labels(Checked):
    def test_numbers_that_are_taken(self):
        rules = [rule("a.0", "n()", ["o(x)"]), rule("a.2", "o(x)", ["e(x x)"]), rule("b", "o(x)", ["e(x y)"]), rule("a", "n()"), rule("c.0", "o(@c)")]
        made = made_program(FRAME, COUNTS, rules)
        # The label of the turned rule itself is taken, too.
        self.check(made, ("unfold", "a.0", 0), [
            rule("a.1", "n()", ["e(x x)"]), rule("a.3", "n()", ["e(x u1)"]), rule("a.4", "n()"), *rules[1:]])
        self.check(made, ("part", "b", "x", "y"), [
            *rules[:2], rule("b.0", "o(x)", ["e(x y)"], [("same", "x", "y")]), rule("b.1", "o(x)", ["e(x y)"], [("unlike", "x", "y")]), *rules[3:]])

    def test_made_tables(self):
        frame = made_frame(["k"], [("n.0", ("k",))], [("o", ("k",)), ("n.2", ())])
        made = made_program(frame, COUNTS, [("r", ("n.2", ()), (("n.0", ("x",)), ("o", ("x",))), (), "1"), ("n.0", ("o", ("x",)), (("n.0", ("x",)),), (), "1")])
        wider = made_frame(["k"], [("n.0", ("k",))], [("o", ("k",)), ("n.2", ()), ("n.1", ("k",))])
        behind = turned(made, ("fold", "r", (1,)))
        self.assertEqual(behind.frame, wider)
        self.assertEqual(behind.rules()[0], ("r", ("n.2", ()), (("n.0", ("x",)), ("n.1", ("x",))), (), "1"))
        self.assertEqual(behind.rules()[2], ("n.1", ("n.1", ("x",)), (("o", ("x",)),), (), "1"))
        further = turned(behind, ("fold", "r", (0, 1)))
        self.assertEqual(further.frame.ruled()[-1], ("n.3", ()))
        self.assertEqual(further.rules()[-1][:2], ("n.2", ("n.3", ())))


class Fold(Checked):
    def wider(self, *kinds):
        return made_frame(FRAME.kinds(), FRAME.told(), [*FRAME.ruled(), ("n.0", kinds)])

    def test_two_atoms(self):
        self.check(
            "a: p(x z) :- e(x y), e(y w), o(z), y != w * 3\nb: n() * 1",
            ("fold", "a", (0, 2)),
            [
                rule("a", "p(x z)", ["n.0(x y z)", "e(y w)"], [("unlike", "y", "w")], "3"),
                rule("b", "n()"),
                rule("n.0", "n.0(x y z)", ["e(x y)", "o(z)"]),
            ],
            self.wider("k", "k", "k"),
        )

    def test_one_atom_and_variables_that_stand_there_alone(self):
        self.check("a: n() :- t(), e(x y), d(z v z) * 2", ("fold", "a", (1,)), [
            rule("a", "n()", ["t()", "n.0()", "d(z v z)"], [], "2"), rule("n.0", "n.0()", ["e(x y)"])], self.wider())
        self.check("a: n() :- e(x y), o(y), f(v) * 2", ("fold", "a", (0,)), [
            rule("a", "n()", ["n.0(y)", "o(y)", "f(v)"], [], "2"), rule("n.0", "n.0(y)", ["e(x y)"])], self.wider("k"))

    def test_a_variable_in_a_test_alone_stands_elsewhere(self):
        self.check("a: n() :- e(x y), x != @c * 1", ("fold", "a", (0,)), [
            rule("a", "n()", ["n.0(x)"], [("unlike", "x", "@c")]), rule("n.0", "n.0(x)", ["e(x y)"])], self.wider("k"))

    def test_kinds_and_things(self):
        self.check("a: o(x) :- f(v), d(x v @c), f(v) * 1", ("fold", "a", (0, 1)), [
            rule("a", "o(x)", ["n.0(v x)", "f(v)"]), rule("n.0", "n.0(v x)", ["f(v)", "d(x v @c)"])], self.wider("m", "k"))

    def test_the_same_atom_twice(self):
        self.check("a: n() :- o(x), o(x) * 1", ("fold", "a", (0, 1)), [
            rule("a", "n()", ["n.0()"]), rule("n.0", "n.0()", ["o(x)", "o(x)"])], self.wider())
        self.check("a: n() :- o(x), o(x) * 1", ("fold", "a", (1,)), [
            rule("a", "n()", ["o(x)", "n.0(x)"]), rule("n.0", "n.0(x)", ["o(x)"])], self.wider("k"))

    def test_more_than_three_places(self):
        made = program("a: n() :- e(x y), e(z w), x != y, z != w * 1\nb: n() :- e(x y), e(z w), x != y, z != x * 1")
        with self.assertRaises(BadTurn):
            turned(made, ("fold", "a", (0, 1)))
        self.assertNotIn(("fold", "a", (0, 1)), all_turns(made, []))
        self.assertEqual(turned(made, ("fold", "b", (0, 1))).rules()[-1], rule("n.0", "n.0(x y z)", ["e(x y)", "e(z w)"]))
        self.assertIn(("fold", "b", (0, 1)), all_turns(made, []))


class Others(Checked):
    RULES = "a: n() :- o(x) * 1\nb: o(x) :- p(x x) * 1\nc: p(x y) :- e(x y) * 1\nd: z(x) :- o(x) * 1\ne: n() * 1"

    def test_drop(self):
        a, b, c, d, e = program(self.RULES).rules()
        for names, rules in [((), []), (("o",), [b, c]), (("z", "p"), [b, c, d]), (("d",), []), (("n",), [a, b, c, e]), (("n", "z"), [a, b, c, d, e])]:
            self.check(self.RULES, ("drop", names), rules)

    def test_order(self):
        self.check("a: o(x) :- e(x y), t(), p(y x), x != y * 2\nb: n() * 1", ("order", "a", (2, 0, 1)), [
            rule("a", "o(x)", ["p(y x)", "e(x y)", "t()"], [("unlike", "x", "y")], "2"), rule("b", "n()")])
        self.check("a: n() * 2", ("order", "a", ()), [rule("a", "n()", [], [], "2")])

    def test_join(self):
        text = "a: o(x) :- e(x y), x = y * 2\nb: n() * 1\nc: o(x) :- e(x y), x = y * 3"
        self.check(text, ("join", "a", "c"), [rule("a", "o(x)", ["e(x y)"], [("same", "x", "y")], "5"), rule("b", "n()")])
        self.check(text, ("join", "c", "a"), [rule("b", "n()"), rule("c", "o(x)", ["e(x y)"], [("same", "x", "y")], "5")])

    def test_part(self):
        self.check("b: n() * 1\na: o(x) :- e(x y), x = @c * 2\nd: n() * 1", ("part", "a", "y", "x"), [
            rule("b", "n()"),
            rule("a.0", "o(x)", ["e(x y)"], [("same", "x", "@c"), ("same", "y", "x")], "2"),
            rule("a.1", "o(x)", ["e(x y)"], [("same", "x", "@c"), ("unlike", "y", "x")], "2"),
            rule("d", "n()"),
        ])


class Special(Checked):
    def wider(self, *kinds):
        return made_frame(FRAME.kinds(), FRAME.told(), [*FRAME.ruled(), ("n.0", kinds)])

    def test_told_in_full(self):
        self.check(
            "a: p(x y) :- e(x y), y != x * 2\nb: p(@c y) :- o(y) * 1\nd: p(@d y) :- o(y) * 1\ne: n() :- p(@c x), p(x @c), p(@c @c) * 1",
            ("special", "p", 0, "c"),
            [
                rule("a", "p(x y)", ["e(x y)"], [("unlike", "y", "x")], "2"),
                rule("b", "p(@c y)", ["o(y)"]),
                rule("d", "p(@d y)", ["o(y)"]),
                rule("e", "n()", ["n.0(x)", "p(x @c)", "n.0(@c)"]),
                rule("a.0", "n.0(y)", ["e(@c y)"], [("unlike", "y", "@c")], "2"),
                rule("b.0", "n.0(y)", ["o(y)"]),
            ],
            self.wider("k"),
        )

    def test_the_table_in_its_own_rules(self):
        # In the copy the atom of the table has the thing, too: it becomes one of the new table.
        self.check(
            "a: p(x z) :- p(x y), p(y z) * 1\nb: o(x) :- p(x @c) * 1",
            ("special", "p", 0, "c"),
            [
                rule("a", "p(x z)", ["p(x y)", "p(y z)"]),
                rule("b", "o(x)", ["p(x @c)"]),
                rule("a.0", "n.0(z)", ["n.0(y)", "p(y z)"]),
            ],
            self.wider("k"),
        )

    def test_heads_with_a_variable_twice(self):
        self.check("a: p(x x) :- o(x) * 1", ("special", "p", 1, "c"), [rule("a", "p(x x)", ["o(x)"]), rule("a.0", "n.0(@c)", ["o(@c)"])], self.wider("k"))

    def test_tests_of_two_things(self):
        self.check(
            "a: o(x) :- e(x y), x != @c * 1\nb: o(x) :- e(x y), x = @c, y != x * 1\nd: o(x) :- e(x y), x != @d * 1",
            ("special", "o", 0, "c"),
            [
                rule("a", "o(x)", ["e(x y)"], [("unlike", "x", "@c")]),
                rule("b", "o(x)", ["e(x y)"], [("same", "x", "@c"), ("unlike", "y", "x")]),
                rule("d", "o(x)", ["e(x y)"], [("unlike", "x", "@d")]),
                rule("b.0", "n.0()", ["e(@c y)"], [("unlike", "y", "@c")]),
                rule("d.0", "n.0()", ["e(@c y)"]),
            ],
            self.wider(),
        )

    def test_no_rule_and_a_thing_that_no_rule_names(self):
        self.check("a: n() :- z(@c) * 1", ("special", "z", 0, "c"), [rule("a", "n()", ["n.0()"])], self.wider())
        self.check("a: n() :- z(@c) * 1", ("special", "z", 0, "new"), [rule("a", "n()", ["z(@c)"])], self.wider())

    def test_a_place_in_the_middle(self):
        self.check("a: d(x v y) :- e(x y), f(v) * 1\nb: n() :- d(@c @w @c) * 1", ("special", "d", 1, "w"), [
            rule("a", "d(x v y)", ["e(x y)", "f(v)"]), rule("b", "n()", ["n.0(@c @c)"]), rule("a.0", "n.0(x y)", ["e(x y)", "f(@w)"])], self.wider("k", "k"))

    def test_a_second_turn_of_the_same_place(self):
        made = program("a: o(x) :- e(x x) * 1\nb: n() :- o(@c), o(@d) * 1")
        once = turned(made, ("special", "o", 0, "c"))
        twice = turned(once, ("special", "o", 0, "d"))
        self.assertEqual(twice.frame.ruled()[-2:], [("n.0", ()), ("n.1", ())])
        self.assertEqual(twice.rules(), [
            rule("a", "o(x)", ["e(x x)"]), rule("b", "n()", ["n.0()", "n.1()"]), rule("a.0", "n.0()", ["e(@c @c)"]), rule("a.1", "n.1()", ["e(@d @d)"])])
        # The same thing once more: the first turn has left no atom for it.
        again = turned(once, ("special", "o", 0, "c"))
        self.assertEqual(again.rules(), once.rules() + [rule("a.1", "n.1()", ["e(@c @c)"])])


class BadTurns(unittest.TestCase):
    RULES = "a: o(x) :- e(x y), p(y x), f(v) * 1\nb: o(x) :- e(x y), p(y x), f(v) * 1\nc: n() :- o(@c), f(@w) * 1"

    def bad(self, *turns):
        made = program(self.RULES)
        for turn in turns:
            for call in (turned, kept_names, lambda made, turn: planned(made, [turn])):
                with self.assertRaises(BadTurn, msg=turn):
                    call(made, turn)

    def test_any_value(self):
        self.bad(*ODD_VALUES, ("unfold",), ("turn", "a", 1), (("unfold",), "a", 1), (["unfold"], "a", 1), ({}, "a", 1), "unfold")

    def test_forms_with_anything_in_a_place(self):
        good = [("unfold", "a", 1), ("fold", "a", (0, 1)), ("drop", ("o", "n")), ("order", "a", (0, 2, 1)), ("join", "a", "b"), ("part", "a", "x", "y"), ("special", "o", 0, "c")]
        made = program(self.RULES)
        for turn in good:
            turned(made, turn)
            self.bad(list(turn), turn + (0,), turn[:-1], turn + ((),))
            for place in range(1, len(turn)):
                for odd in ODD_VALUES + ["zz", "e", ("a",), [0, 1], (True, 2), ("o", "o"), 1.5]:
                    if odd == turn[place] and type(odd) is type(turn[place]):
                        continue
                    if (turn[0], odd) in [("drop", ()), ("special", "zz"), ("special", "e")]:
                        continue
                    self.bad(turn[:place] + (odd,) + turn[place + 1:])

    def test_unfold(self):
        self.bad(("unfold", "a", 0), ("unfold", "a", 2), ("unfold", "a", 3), ("unfold", "a", -1), ("unfold", "a", -2), ("unfold", "a", True), ("unfold", "zz", 0))

    def test_fold(self):
        self.bad(*[("fold", "a", places) for places in [(), (0, 1, 2), (1, 0), (1, 1), (3,), (-1,), (-1, 0), (True,), (False, 1), [0], [0, 1], 0]])

    def test_drop(self):
        self.bad(*[("drop", names) for names in [["o"], ("e",), ("o", "o"), ("zz",), (None,), "o", "n", ([],)]])

    def test_order(self):
        self.bad(*[("order", "a", places) for places in [(), (0, 1), (0, 1, 2, 3), (0, 0, 1), (1, 2, 3), [0, 1, 2], (False, True, 2), (0, True, 2), (-1, 0, 1)]])

    def test_join(self):
        self.bad(("join", "a", "a"), ("join", "a", "c"), ("join", "a", "zz"), ("join", "zz", "a"))
        made = program("a: o(x) :- e(x y) * 1\nb: o(y) :- e(y x) * 1\nc: o(x) :- e(x y), x = x * 1\nd: o(x) :- e(x y) * 2")
        for other in "bc":
            with self.assertRaises(BadTurn):
                turned(made, ("join", "a", other))
        self.assertEqual(turned(made, ("join", "a", "d")).rule("a")[4], "3")

    def test_part(self):
        self.bad(("part", "a", "x", "x"), ("part", "a", "x", "v"), ("part", "a", "x", "w"), ("part", "a", "@c", "x"), ("part", "c", "x", "y"))

    def test_special(self):
        self.bad(("special", "e", 0, "c"), ("special", "o", 1, "c"), ("special", "n", 0, "c"), ("special", "o", -1, "c"), ("special", "o", False, "c"))
        # A thing that the rules name with another kind, a made name, a place instead of a thing.
        self.bad(("special", "o", 0, "w"), ("special", "o", 0, "c.0"), ("special", "o", 0, "@c"), ("special", "o", 0, "C"))
        self.assertEqual(len(turned(program(self.RULES), ("special", "d", 1, "w"))), 3)

    def test_planned(self):
        made = program(self.RULES)
        turns = [("join", "a", "b"), ("unfold", "c", 0)]
        self.assertEqual(planned(made, turns), turned(turned(made, turns[0]), turns[1]))
        self.assertEqual(planned(made, tuple(turns)), planned(made, turns))
        self.assertEqual(planned(made, []), made)
        # The second one is no turn any more behind the first one.
        with self.assertRaises(BadTurn):
            planned(made, [turns[0], turns[0]])


class Kept(unittest.TestCase):
    def test_names(self):
        made = program(Others.RULES)
        every = ["p", "n", "o", "d", "z"]
        for turn in [("unfold", "a", 0), ("fold", "a", (0,)), ("order", "a", (0,)), ("part", "c", "x", "y"), ("special", "p", 0, "c")]:
            self.assertEqual(kept_names(made, turn), every)
        for names, kept in [((), []), (("z", "d"), ["p", "o", "d", "z"]), (("n",), ["p", "n", "o"]), (("p",), ["p"]), (("d",), ["d"])]:
            self.assertEqual(kept_names(made, ("drop", names)), kept)

    def test_settled_worths(self):
        rng = random.Random(121)
        many = dict.fromkeys(FORMS, 0)
        for made, store in many_cases(121, steady_scales(), 160):
            made = with_a_twin(rng, made)
            turns = some_turns(rng, made, store)
            for turn in turns[:5] + [turn for turn in turns if turn[0] == "join"][:1]:
                try:
                    behind = turned(made, turn)
                except BadTurn:
                    self.assertEqual(turn[0], "fold")
                    continue
                ahead, _ = settled(made, store)
                worths, _ = settled(behind, store_over(behind.frame, store))
                kept = kept_names(made, turn)
                for fact in ahead:
                    expected = ahead[fact] if fact[0] in kept else made.scale.nought
                    self.assertEqual(worths[fact], expected, (made.rules(), turn, fact))
                many[turn[0]] += 1
        self.assertTrue(all(number > 3 for number in many.values()), many)

    def test_rows_of_turns(self):
        rng = random.Random(122)
        long = 0
        for made, store in many_cases(122, steady_scales(), 60):
            ahead, _ = plain_settled(made, store)
            met, turns, kept = made, [], [name for name, _ in made.frame.ruled()]
            for _ in range(4):
                found = [turn for turn in all_turns(met, kept) if turn[0] != "drop"]
                if found and len(met) < 8:
                    turns.append(rng.choice(found))
                    met = turned(met, turns[-1])
            self.assertEqual(planned(made, turns), met)
            worths, _ = settled(met, store_over(met.frame, store))
            self.assertEqual({fact: worths[fact] for fact in ahead}, ahead)
            long += len(turns) > 2
        self.assertGreater(long, 15)

    def test_what_is_returned_can_be_changed(self):
        made = program(Others.RULES)
        kept_names(made, ("drop", ("n",))).clear()
        all_turns(made, []).clear()
        self.assertEqual(kept_names(made, ("drop", ("n",))), ["p", "n", "o"])
        self.assertEqual(made, program(Others.RULES))


def plain_turns(made, names):
    """all_turns once more, form by form; what can be done is tried."""
    found = []
    rules = made.rules()
    for label, _, body, _, _ in rules:
        found += [("unfold", label, at) for at in range(len(body)) if made.frame.is_ruled(body[at][0])]
    for label, _, body, _, _ in rules:
        for at in range(len(body) - 1):
            try:
                turned(made, ("fold", label, (at, at + 1)))
                found.append(("fold", label, (at, at + 1)))
            except BadTurn:
                pass
    drop = ("drop", tuple(dict.fromkeys(names)))
    if len(turned(made, drop)) < len(made):
        found.append(drop)
    for label, _, body, _, _ in rules:
        for at in range(len(body) - 1):
            places = list(range(len(body)))
            places[at], places[at + 1] = places[at + 1], places[at]
            if body[at] != body[at + 1]:
                found.append(("order", label, tuple(places)))
    for k in range(len(rules)):
        for j in range(k + 1, len(rules)):
            if rules[k][1:4] == rules[j][1:4]:
                found.append(("join", rules[k][0], rules[j][0]))
    for label in made.labels():
        variables = made.variables(label)
        for k in range(len(variables)):
            for j in range(k + 1, len(variables)):
                if made.kind_at(label, variables[k]) == made.kind_at(label, variables[j]):
                    found.append(("part", label, variables[k], variables[j]))
    for name, kinds in made.frame.ruled():
        for at in range(len(kinds)):
            things = [one[1][at][1:] for rule in rules for one in rule[2] if one[0] == name and one[1][at][0] == "@"]
            found += [("special", name, at, thing) for thing in dict.fromkeys(things)]
    return found


class All(unittest.TestCase):
    def test_told_in_full(self):
        made = program("a: o(x) :- p(x y), p(x y), e(y x) * 1\nb: n() :- o(@d), o(@c), o(@d) * 1\nc: n() :- o(@d), o(@c), o(@d) * 2")
        self.assertEqual(all_turns(made, ["o", "o"]), [
            ("unfold", "a", 0), ("unfold", "a", 1), ("unfold", "b", 0), ("unfold", "b", 1), ("unfold", "b", 2),
            ("unfold", "c", 0), ("unfold", "c", 1), ("unfold", "c", 2),
            ("fold", "a", (0, 1)), ("fold", "a", (1, 2)), ("fold", "b", (0, 1)), ("fold", "b", (1, 2)), ("fold", "c", (0, 1)), ("fold", "c", (1, 2)),
            ("drop", ("o",)),
            ("order", "a", (0, 2, 1)), ("order", "b", (1, 0, 2)), ("order", "b", (0, 2, 1)), ("order", "c", (1, 0, 2)), ("order", "c", (0, 2, 1)),
            ("join", "b", "c"),
            ("part", "a", "x", "y"),
            ("special", "o", 0, "d"), ("special", "o", 0, "c"),
        ])
        self.assertEqual(all_turns(made, ("n", "o", "n"))[14][0], "order")
        self.assertIn(("drop", ()), all_turns(made, []))
        self.assertIn(("drop", ("z", "d")), all_turns(made, ["z", "d", "z"]))
        self.assertEqual(all_turns(program(""), []), [])

    def test_against_the_plain_way(self):
        rng = random.Random(123)
        for made, store in many_cases(123, steady_scales(), 150):
            names = [rng.choice(made.frame.ruled())[0] for _ in range(rng.randint(0, 4))]
            found = all_turns(made, names)
            self.assertEqual(found, plain_turns(made, names))
            behind = turned(made, rng.choice(found)) if found else made
            self.assertEqual(all_turns(behind, []), plain_turns(behind, []))

    def test_unknown_name(self):
        made = program(Others.RULES)
        for odd in ODD_VALUES + ["e", "zz", ("n",)]:
            with self.assertRaises(UnknownName) as caught:
                all_turns(made, ["n", odd, "later"])
            self.assertIs(caught.exception.name, odd)

    def test_hanging(self):
        made = program(Others.RULES)
        self.assertEqual(tables_under(made, "n"), ["o", "p"])


if __name__ == "__main__":
    unittest.main()

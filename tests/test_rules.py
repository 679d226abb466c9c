import itertools
import random
import unittest

from tests.samples import ODD_VALUES, RandomCases, road_frame, road_program, road_rules, road_store, yes_no
from worthhouse.errors import BadRule, MixedFrames, MixedScales, UnknownLabel, UnknownName, UnknownThing
from worthhouse.frames import Frame, made_frame
from worthhouse.rules import Program, filled, made_program, need_fit, needed_things, same_rules
from worthhouse.scales import CostScale, CountScale, LevelScale
from worthhouse.stores import Store

COUNTS = CountScale(2)
GOOD = ("r", ("way", ("x", "y")), (("road", ("x", "y")),), (("unlike", "x", "y"),), "1")


def program_of(*rules, frame=None, make=Program, scale=COUNTS):
    return make(road_frame() if frame is None else frame, scale, list(rules))


def rule(label="r", head=("any", ()), body=(), tests=(), worth="1"):
    return (label, head, tuple(body), tuple(tests), worth)


class Programs(unittest.TestCase):
    def test_ordinary(self):
        scale = CostScale(6)
        program = road_program(scale)
        self.assertTrue(program.frame == road_frame() and program.scale == scale)
        self.assertEqual(program.rules(), road_rules(scale))
        self.assertEqual(program.labels(), ["direct", "onward", "fine", "some", "fixed", "deals", "twice"])
        self.assertEqual(program.rule("fine"), road_rules(scale)[2])
        self.assertEqual(len(program), 7)
        self.assertEqual(program.rules_for("any"), ["some", "twice"])
        self.assertEqual(program.rules_for("good"), ["fine", "fixed"])
        self.assertEqual(program.variables("direct"), ("x", "y"))
        self.assertEqual(program.variables("onward"), ("x", "z", "y"))
        self.assertEqual(program.variables("fixed"), ())
        self.assertEqual(program.kind_at("deals", "s"), "sort")
        self.assertEqual(program.kind_at("deals", "y"), "town")

    def test_without_rules(self):
        program = program_of()
        self.assertEqual((len(program), program.rules(), program.labels()), (0, [], []))
        self.assertEqual(program.rules_for("any"), [])
        self.assertEqual(needed_things(program), [])

    def test_order_of_variables(self):
        one = rule(
            head=("swap", ("c", "s", "a")),
            body=[("way", ("b", "a")), ("swap", ("@a", "t", "c")), ("is", ("d", "s"))],
            tests=[("unlike", "d", "b")],
        )
        self.assertEqual(program_of(one).variables("r"), ("c", "s", "a", "b", "t", "d"))

    def test_unknown(self):
        program = road_program()
        for odd in ["x", "Direct", "way"] + ODD_VALUES:
            for call in (program.rule, program.variables, lambda label: program.kind_at(label, "x")):
                with self.assertRaises(UnknownLabel) as caught:
                    call(odd)
                self.assertIs(caught.exception.name, odd)
            with self.assertRaises(UnknownLabel) as caught:
                filled(program, odd, ())
            self.assertIs(caught.exception.name, odd)
            if odd != "x":
                with self.assertRaises(UnknownName) as caught:
                    program.kind_at("direct", odd)
                self.assertIs(caught.exception.name, odd)
        with self.assertRaises(UnknownName):
            program.kind_at("direct", "z")
        for odd in ["road", "open", "zz", "direct"] + ODD_VALUES:
            with self.assertRaises(UnknownName) as caught:
                program.rules_for(odd)
            self.assertIs(caught.exception.name, odd)

    def test_equal(self):
        program = program_of(GOOD, rule("s"))
        self.assertTrue(program == program_of(GOOD, rule("s")))
        for other in (
            program_of(rule("s"), GOOD),
            program_of(GOOD),
            program_of(GOOD, rule("t")),
            program_of(GOOD, rule("s", worth="2")),
            program_of(GOOD, rule("s"), scale=LevelScale(2)),
            program_of(
                GOOD, rule("s"), frame=Frame(["sort", "town"], road_frame().told(), road_frame().ruled())
            ),
        ):
            self.assertFalse(program == other)
            self.assertTrue(program != other)
        for other in ODD_VALUES + [object(), [GOOD, rule("s")]]:
            self.assertIs(program == other, False)

    def test_nothing_is_kept_or_shared(self):
        rules = [GOOD, rule("s")]
        program = Program(road_frame(), COUNTS, rules)
        twin = program_of(GOOD, rule("s"))
        self.assertEqual(rules, [GOOD, rule("s")])
        rules.clear()
        for row in (program.rules(), program.labels(), program.rules_for("any"), needed_things(program)):
            row.append("zz")
        self.assertTrue(program == twin)
        self.assertEqual((program.labels(), program.rules_for("any"), needed_things(program)), (["r", "s"], ["s"], []))

    def test_rules_as_a_tuple(self):
        self.assertTrue(Program(road_frame(), COUNTS, (GOOD,)) == program_of(GOOD))

    def test_rules_that_may_be(self):
        for good in [
            rule(),
            rule(worth="0"),
            rule(body=[("any", ()), ("any", ())]),
            rule(body=[("good", ("x",)), ("good", ("x",))]),
            rule(body=[("good", ("x",))]),
            rule(body=[("road", ("x", "x"))], tests=[("same", "x", "x"), ("unlike", "x", "x")]),
            rule(head=("way", ("x", "@a")), body=[("good", ("x",))]),
            rule(head=("way", ("@a", "@a"))),
            rule(body=[("good", ("x",))], tests=[("same", "@a", "x"), ("same", "x", "@b")]),
            rule(body=[("is", ("x", "s"))], tests=[("same", "s", "@x")]),
            rule(label="z" * 12, body=[("good", ("z" * 12,))]),
            rule(head=("way", ("way", "way")), body=[("road", ("way", "way"))]),
            rule(body=[("good", ("@" + "z" * 12,))]),
        ]:
            program = program_of(good)
            self.assertEqual(program.rules(), [good])
            self.assertEqual(program_of(good, make=made_program).rules(), [good])

    def bad(self, *rules, make=Program):
        with self.assertRaises(BadRule, msg=rules) as caught:
            program_of(*rules, make=make)
        return caught.exception.number

    def test_rules_that_may_not_be(self):
        bad_ones = [
            # tables and their places
            rule(head=("road", ("@a", "@a"))),
            rule(head=("zz", ())),
            rule(head=("any", ("@a",))),
            rule(head=("good", ())),
            rule(body=[("zz", ())]),
            rule(body=[("open", ("x",))]),
            rule(body=[("road", ("x",))]),
            rule(body=[("road", ("x", "y", "z"))]),
            rule(head=("", ())),
            # variables
            rule(head=("good", ("x",))),
            rule(head=("good", ("x",)), body=[("good", ("y",))]),
            rule(body=[("is", ("x", "x"))]),
            rule(head=("good", ("x",)), body=[("is", ("y", "x"))]),
            rule(body=[("good", ("x",)), ("is", ("y", "x"))]),
            # tests
            rule(tests=[("same", "x", "x")]),
            rule(body=[("good", ("x",))], tests=[("same", "x", "y")]),
            rule(body=[("good", ("x",))], tests=[("same", "y", "x")]),
            rule(body=[("good", ("x",))], tests=[("same", "y", "@a")]),
            rule(body=[("good", ("x",))], tests=[("same", "@a", "@a")]),
            rule(body=[("good", ("x",))], tests=[("unlike", "@a", "@b")]),
            rule(body=[("is", ("x", "s"))], tests=[("unlike", "x", "s")]),
            rule(body=[("good", ("x",))], tests=[("other", "x", "x")]),
            rule(body=[("good", ("x",))], tests=[("", "x", "x")]),
            rule(body=[("good", ("x",))], tests=[("same", "x")]),
            rule(body=[("good", ("x",))], tests=[("same", "x", "x", "x")]),
            # things of two kinds
            rule(body=[("is", ("@a", "@a"))]),
            rule(head=("good", ("@red",)), body=[("is", ("x", "@red"))]),
            rule(body=[("is", ("x", "@a"))], tests=[("same", "x", "@a")]),
            rule(body=[("is", ("x", "s"))], tests=[("same", "x", "@a"), ("unlike", "@a", "s")]),
            # several things wrong at once
            rule(body=[("is", ("x", "x"))], tests=[("same", "x", "@a")]),
            rule(body=[("is", ("x", "s"))], tests=[("unlike", "x", "s"), ("same", "x", "x")]),
            # words and worths
            rule(worth="3"),
            rule(worth=""),
            rule(label=""),
            rule(label="R"),
            rule(label="z" * 13),
            rule(label="1r"),
            rule(body=[("good", ("",))]),
            rule(body=[("good", ("X",))]),
            rule(body=[("good", ("@",))]),
            rule(body=[("good", ("@@a",))]),
            rule(body=[("good", ("@A",))]),
            rule(body=[("good", ("x.0",))]),
            rule(body=[("good", ("x ",))]),
            rule(body=[("good", ("@" + "z" * 13,))]),
            rule(body=[("good", ("z" * 13,))]),
        ]
        for bad in bad_ones:
            self.assertEqual(self.bad(bad), 0)
            self.assertEqual(self.bad(rule("first"), bad, bad), 1)
            self.assertEqual(self.bad(rule("first"), bad, make=made_program), 1)

    def test_odd_values_in_place_of_each_part(self):
        for odd in ODD_VALUES + [3.5, ("Any",), [()], ((),), (None,), ("any", [])]:
            self.assertEqual(self.bad(odd), 0)
            for place in range(5):
                changed = list(GOOD)
                changed[place] = odd
                if odd != () or place not in (2, 3):
                    self.assertEqual(self.bad(rule("first"), tuple(changed)), 1, (place, odd))
            parts = [
                ("r", (odd, ()), (), (), "1"),
                ("r", ("good", (odd,)), (), (), "1"),
                ("r", ("any", ()), (odd,), (), "1"),
                ("r", ("any", ()), ((odd, ("x",)),), (), "1"),
                ("r", ("any", ()), (("good", odd),), (), "1"),
                ("r", ("any", ()), (("good", (odd,)),), (), "1"),
                ("r", ("any", ()), (("good", ("x",)),), (odd,), "1"),
                ("r", ("any", ()), (("good", ("x",)),), ((odd, "x", "x"),), "1"),
                ("r", ("any", ()), (("good", ("x",)),), (("same", odd, "x"),), "1"),
                ("r", ("any", ()), (("good", ("x",)),), (("same", "x", odd),), "1"),
            ]
            if odd != ():
                parts.append(("r", ("any", odd), (), (), "1"))
            for changed in parts:
                self.assertEqual(self.bad(changed), 0, changed)

    def test_lists_in_place_of_tuples(self):
        self.assertEqual(self.bad(list(GOOD)), 0)
        for place in (1, 2, 3):
            changed = list(GOOD)
            changed[place] = list(changed[place])
            self.assertEqual(self.bad(tuple(changed)), 0)
        self.assertEqual(self.bad(("r", ("way", ["x", "y"])) + GOOD[2:]), 0)
        self.assertEqual(self.bad(GOOD[:2] + ((["road", ("x", "y")],),) + GOOD[3:]), 0)
        self.assertEqual(self.bad(GOOD[:2] + ((("road", ["x", "y"]),),) + GOOD[3:]), 0)
        self.assertEqual(self.bad(GOOD[:3] + ((["unlike", "x", "y"],),) + GOOD[4:]), 0)

    def test_too_few_or_many_parts(self):
        self.assertEqual(self.bad(GOOD[:4]), 0)
        self.assertEqual(self.bad(GOOD + ("1",)), 0)
        self.assertEqual(self.bad(("r", ("any", (), ())) + GOOD[2:]), 0)
        self.assertEqual(self.bad(("r", ("any",)) + GOOD[2:]), 0)

    def test_beside_those_before(self):
        self.assertEqual(self.bad(rule("r"), rule("s"), rule("r", worth="2")), 2)
        red_town = rule("s", head=("good", ("@red",)))
        red_sort = rule("t", body=[("is", ("x", "@red"))])
        red_test = rule("u", body=[("is", ("x", "s"))], tests=[("same", "@red", "s")])
        self.assertEqual(self.bad(red_town, red_sort), 1)
        self.assertEqual(self.bad(red_sort, red_test, red_town), 2)
        self.assertEqual(self.bad(red_test, rule("r"), red_town), 2)
        self.assertEqual(self.bad(red_town, red_test), 1)
        self.assertEqual(len(program_of(red_sort, red_test)), 2)

    def test_variables_have_kinds_rule_by_rule(self):
        self.assertEqual(len(program_of(rule("r", body=[("good", ("x",))]), rule("s", body=[("is", ("y", "x"))]))), 2)

    def test_two_rules_alike_but_for_their_labels(self):
        self.assertEqual(program_of(rule("r"), rule("s")).labels(), ["r", "s"])

    def test_tables_with_made_names_and_many_places(self):
        frame = made_frame(["k"], [("t.0", ("k",) * 4)], [("q.0", ("k",))])
        one = ("r", ("q.0", ("x",)), (("t.0", ("x", "y", "z", "@a")),), (), "1")
        program = program_of(one, frame=frame)
        self.assertEqual(program.variables("r"), ("x", "y", "z"))
        self.assertEqual(program.rules_for("q.0"), ["r"])
        self.assertEqual(needed_things(program), [("a", "k")])


class MadePrograms(unittest.TestCase):
    def test_labels(self):
        program = program_of(rule("q.0"), rule("q.999"), rule("r"), make=made_program)
        self.assertIsInstance(program, Program)
        self.assertEqual(program.labels(), ["q.0", "q.999", "r"])
        self.assertEqual(program.variables("q.0"), ())
        self.assertTrue(program == program_of(rule("q.0"), rule("q.999"), rule("r"), make=made_program))
        self.assertTrue(program_of(GOOD) == program_of(GOOD, make=made_program))

    def test_labels_that_program_does_not_take(self):
        for label in ("q.0", "w.12", "a.999"):
            with self.assertRaises(BadRule) as caught:
                program_of(rule(), rule(label))
            self.assertEqual(caught.exception.number, 1)
            self.assertEqual(program_of(rule(), rule(label), make=made_program).labels(), ["r", label])

    def test_labels_that_none_takes(self):
        for label in ("q.00", "q.1000", "q.", ".0", "Q.0", "q.0.0", "q.a", "abcdefghijklm.0", None, 3, (), []):
            for make in (Program, made_program):
                with self.assertRaises(BadRule):
                    program_of(rule(label), make=make)

    def test_variables_and_things_are_words(self):
        for place in ("q.0", "@q.0"):
            with self.assertRaises(BadRule):
                program_of(rule(body=[("good", (place,))]), make=made_program)

    def test_one_label_twice(self):
        with self.assertRaises(BadRule) as caught:
            program_of(rule("q.0"), rule("q.1"), rule("q.0"), make=made_program)
        self.assertEqual(caught.exception.number, 2)

    def test_many_rules(self):
        program = program_of(*[rule("w." + str(k)) for k in range(100)], make=made_program)
        self.assertEqual(len(program), 100)


class Things(unittest.TestCase):
    def test_needed(self):
        program = program_of(
            rule("r", head=("good", ("@c",)), body=[("is", ("x", "@red"))], tests=[("same", "x", "@a")]),
            rule("s", head=("good", ("@a",)), body=[("is", ("@b", "s"))], tests=[("unlike", "@blue", "s"), ("same", "s", "@red")]),
        )
        self.assertEqual(
            needed_things(program), [("c", "town"), ("red", "sort"), ("a", "town"), ("b", "town"), ("blue", "sort")]
        )
        self.assertEqual(needed_things(road_program()), [("red", "sort"), ("b", "town")])

    def test_fits(self):
        self.assertIsNone(need_fit(road_program(), road_store()))
        self.assertIsNone(need_fit(program_of(), Store(road_frame(), COUNTS, [], [])))

    def test_does_not_fit(self):
        program = road_program(COUNTS)
        other = Frame(["sort", "town"], road_frame().told(), road_frame().ruled())
        with self.assertRaises(MixedFrames):
            need_fit(program, Store(other, LevelScale(2), [], []))
        with self.assertRaises(MixedScales):
            need_fit(program, Store(road_frame(), LevelScale(2), [], []))
        for things, missing in [
            ([], "red"),
            ([("b", "town")], "red"),
            ([("red", "sort")], "b"),
            ([("red", "town"), ("b", "sort")], "red"),
            ([("red", "sort"), ("b", "sort")], "b"),
        ]:
            with self.assertRaises(UnknownThing) as caught:
                need_fit(program, Store(road_frame(), COUNTS, things, []))
            self.assertEqual(caught.exception.name, missing)

    def test_scales_are_the_same_whatever_made_by(self):
        store = Store(road_frame(), LevelScale(1), [("red", "sort"), ("b", "town")], [])
        self.assertIsNone(need_fit(road_program(CountScale(1)), store))


class Filled(unittest.TestCase):
    def test_ordinary(self):
        program = road_program()
        self.assertEqual(
            filled(program, "onward", ("a", "c", "b")),
            (("way", ("a", "c")), (("way", ("a", "b")), ("road", ("b", "c"))), True),
        )
        self.assertEqual(filled(program, "onward", ("a", "a", "b"))[2], False)
        self.assertEqual(filled(program, "fixed", ()), (("good", ("b",)), (), True))
        self.assertEqual(filled(program, "fine", ("c", "c"))[1], (("is", ("c", "red")), ("way", ("c", "c"))))
        self.assertEqual(filled(program, "twice", ()), (("any", ()), (("any", ()), ("any", ())), True))

    def test_no_store_is_looked_at(self):
        self.assertEqual(
            filled(road_program(), "deals", ("u", "v", "w")),
            (("swap", ("u", "v", "w")), (("deal", ("u", "v", "w")), ("good", ("w",))), False),
        )

    def test_tests(self):
        def holds(tests, things):
            return filled(program_of(rule(body=[("road", ("x", "y"))], tests=tests)), "r", things)[2]

        for x, y in itertools.product("abc", "abc"):
            self.assertIs(holds([("same", "x", "y")], (x, y)), x == y)
            self.assertIs(holds([("unlike", "x", "y")], (x, y)), x != y)
            self.assertIs(holds([("same", "@a", "y")], (x, y)), y == "a")
            self.assertIs(holds([("unlike", "x", "@a")], (x, y)), x != "a")
            self.assertIs(holds([("same", "x", "x")], (x, y)), True)
            self.assertIs(holds([("unlike", "x", "x")], (x, y)), False)
            self.assertIs(holds([("same", "x", "y"), ("unlike", "x", "@a")], (x, y)), x == y != "a")
            self.assertIs(holds([], (x, y)), True)


def renamed(one, names):
    def turned(place):
        return place if place[0] == "@" else names[place]

    label, head, body, tests, worth = one

    def atom(part):
        return (part[0], tuple(turned(place) for place in part[1]))

    return (
        label,
        atom(head),
        tuple(atom(part) for part in body),
        tuple((word, turned(p), turned(q)) for word, p, q in tests),
        worth,
    )


def plainly_alike(one, other):
    """Whether two rules are alike, by all ways to rename the variables of the one."""

    def variables(rule_):
        atoms = (rule_[1],) + rule_[2]
        return sorted({place for _, places in atoms for place in places if place[0] != "@"})

    def key(rule_):
        return (
            rule_[1],
            sorted(rule_[2]),
            sorted((word, min(p, q), max(p, q)) for word, p, q in rule_[3]),
            rule_[4],
        )

    mine, theirs = variables(one), variables(other)
    if len(mine) != len(theirs):
        return False
    return any(key(renamed(one, dict(zip(mine, order)))) == key(other) for order in itertools.permutations(theirs))


class SameRules(unittest.TestCase):
    def same(self, *pairs):
        first, second = zip(*pairs)
        there = same_rules(program_of(*first), program_of(*second))
        self.assertIs(there, same_rules(program_of(*second), program_of(*first)))
        return there

    def test_what_does_not_matter(self):
        one = rule(
            head=("way", ("x", "z")),
            body=[("way", ("x", "y")), ("road", ("y", "z"))],
            tests=[("unlike", "x", "z"), ("same", "y", "@b")],
        )
        other = rule(
            "other",
            head=("way", ("a", "c")),
            body=[("road", ("x", "c")), ("way", ("a", "x"))],
            tests=[("same", "@b", "x"), ("unlike", "c", "a")],
        )
        self.assertIs(self.same((one, other)), True)
        self.assertIs(same_rules(program_of(one, rule("s")), program_of(rule("r"), other)), True)
        self.assertIs(same_rules(program_of(), program_of()), True)

    def test_what_matters(self):
        one = rule(head=("way", ("x", "y")), body=[("road", ("x", "y"))], tests=[("unlike", "x", "y")])
        for other in (
            rule(head=("way", ("y", "x")), body=[("road", ("x", "y"))], tests=[("unlike", "x", "y")]),
            rule(head=("way", ("x", "y")), body=[("road", ("x", "y"))], tests=[("same", "x", "y")]),
            rule(head=("way", ("x", "y")), body=[("road", ("x", "y"))]),
            rule(head=("way", ("x", "y")), body=[("way", ("x", "y"))], tests=[("unlike", "x", "y")]),
            rule(head=("way", ("x", "x")), body=[("road", ("x", "x"))], tests=[("unlike", "x", "x")]),
            rule(head=("way", ("x", "@a")), body=[("road", ("x", "@a"))], tests=[("unlike", "x", "@a")]),
            one[:4] + ("2",),
            one[:3] + (one[3] * 2, "1"),
            one[:2] + (one[2] * 2,) + one[3:],
        ):
            self.assertIs(self.same((one, other)), False, other)

    def test_variables_are_not_put_together(self):
        one = rule(body=[("road", ("x", "y")), ("road", ("y", "x"))])
        for body, expected in [
            ([("road", ("x", "x")), ("road", ("x", "x"))], False),
            ([("road", ("b", "a")), ("road", ("a", "b"))], True),
            ([("road", ("a", "b")), ("road", ("a", "b"))], False),
            ([("road", ("a", "b")), ("road", ("b", "c"))], False),
        ]:
            self.assertIs(self.same((one, rule(body=body))), expected)

    def test_each_rule_once(self):
        first = program_of(rule("a"), rule("b"), rule("c", worth="2"))
        self.assertIs(same_rules(first, program_of(rule("a", worth="2"), rule("b"), rule("c"))), True)
        self.assertIs(same_rules(first, program_of(rule("a", worth="2"), rule("b", worth="2"), rule("c"))), False)
        self.assertIs(same_rules(first, program_of(rule("a"), rule("b"))), False)
        self.assertIs(same_rules(program_of(rule("a"), rule("b")), first), False)

    def test_frames_and_scales(self):
        other = Frame(["sort", "town"], road_frame().told(), road_frame().ruled())
        self.assertIs(same_rules(program_of(rule()), program_of(rule(), frame=other)), False)
        self.assertIs(same_rules(program_of(rule()), program_of(rule(), scale=LevelScale(2))), False)
        self.assertIs(
            same_rules(program_of(rule(), scale=CountScale(1)), program_of(rule(), scale=LevelScale(1))), True
        )

    def test_made_labels(self):
        self.assertIs(same_rules(program_of(rule("q.0"), make=made_program), program_of(rule("r"))), True)

    def test_many_atoms(self):
        names = ["v" + str(k) for k in range(9)]
        body = [("road", (names[k], names[(k + 1) % 9])) for k in range(9)]
        turned = [("road", (names[(2 * k) % 9], names[(2 * k + 2) % 9])) for k in range(9)]
        self.assertIs(self.same((rule(body=body), rule(body=turned))), True)
        self.assertIs(self.same((rule(body=body), rule(body=turned[:-1] + [("road", ("v7", "v1"))]))), False)
        repeated = [("any", ())] * 9
        self.assertIs(self.same((rule(body=repeated), rule(body=repeated[:-1] + [("open", ())]))), False)

    def test_against_all_renamings(self):
        rng = random.Random(3)
        frame = Frame(["k"], [("t", ("k", "k"))], [("p", ()), ("q", ("k",))])
        found = []
        for _ in range(400):
            def made():
                def place():
                    return rng.choice(["x", "y", "z", "@a"])

                body = [("t", (place(), place())) for _ in range(rng.randint(1, 3))]
                names = [p for _, places in body for p in places if p[0] != "@"]
                tests = []
                if names and rng.random() < 0.7:
                    tests = [(rng.choice(["same", "unlike"]), rng.choice(names), rng.choice(names + ["@a"]))]
                head = ("q", (rng.choice(names),)) if names and rng.random() < 0.3 else ("p", ())
                return rule(head=head, body=body, tests=tests)

            one, other = made(), made()
            if rng.random() < 0.5:
                names = dict(zip("xyz", rng.sample(["a", "b", "x"], 3)))
                other = renamed(one, names)
                other = other[:2] + (tuple(rng.sample(other[2], len(other[2]))),) + other[3:]
            alike = same_rules(program_of(one, frame=frame), program_of(other, frame=frame))
            self.assertIs(alike, plainly_alike(one, other), (one, other))
            found.append(alike)
        self.assertGreater(found.count(False), 50)

    def test_random_programs_are_the_same_as_themselves_shuffled(self):
        cases = RandomCases(17)
        for _ in range(40):
            program, _ = cases.case(yes_no())
            rules = [
                (label[::-1] if label[::-1][0].isalpha() else label, head, body[::-1], tests[::-1], worth)
                for label, head, body, tests, worth in program.rules()[::-1]
            ]
            self.assertIs(same_rules(program, Program(program.frame, program.scale, rules)), True)


if __name__ == "__main__":
    unittest.main()

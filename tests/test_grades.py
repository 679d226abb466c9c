import itertools
import unittest

from tests.plaincheck import parts
from tests.questioncases import RandomQuestions, ask_frame
from tests.samples import ODD_VALUES
from worthhouse.derivations import are_bounds, bounded, grade_bounds
from worthhouse.errors import BadQuestion, NotTold
from worthhouse.grades import few_ground, grade, grades, is_ground, most_ground, rows_in
from worthhouse.questions import names_of
from worthhouse.scales import CountScale, TurnScale

FRAME = ask_frame()
SCALE = CountScale(3)
Z = ("table", "z0", ())
ONE = ("worth", "1")
R = ("call", "r", ())
Z_ROW, A_ROW, ONE_GROUND = ("row", "z0"), ("row", "a"), ("one",)


def withs(*terms):
    found = terms[-1]
    for term in terms[-2::-1]:
        found = ("with", term, found)
    return found


def least(s, t=R):
    return ("least", "r", (), s, t)


def question(term):
    return ((), term)


GRADES = [
    (Z, (1, 1)),
    (ONE, (0, 0)),
    (("both", Z, ONE), (0, 1)),
    (("both", Z, Z), (1, 1)),
    (withs(Z, Z), (2, 2)),
    (withs(Z, Z, Z), (3, 3)),
    (withs(Z, Z, Z, Z), ("many", "many")),
    (withs(Z, Z, Z, ("both", ONE, Z)), (3, "many")),
    (("over", "x", ("with", Z, ("table", "a", ("x",)))), (1, 1)),
    (("over", "x", ("where", ("unlike", "x", "x"), ("with", Z, ("table", "a", ("x",))))), (1, 1)),
    (("with", Z, ("worth", "0")), (1, 1)),
    (("let", "r", (), withs(Z, Z), R), (2, 2)),
    (("let", "r", (), withs(Z, Z), ONE), (0, 0)),
    (("let", "r", (), withs(Z, Z), withs(R, R)), ("many", "many")),
    (("let", "r", (), ("both", Z, withs(Z, Z)), withs(R, Z)), (2, 3)),
    (least(Z), (1, 1)),
    (least(R), ("many", 0)),
    (least(R, ONE), (0, 0)),
    (least(R, ("both", R, Z)), (1, 1)),
    (least(R, withs(R, Z)), ("many", 0)),
    (least(("both", Z, R)), (1, 1)),
    (least(("both", Z, withs(Z, R))), (1, "many")),
    (least(("both", ONE, withs(Z, R))), (0, "many")),
    (least(("both", ONE, withs(R, R))), (0, 0)),
    (least(("both", Z, withs(R, R))), (1, "many")),
    (least(withs(Z, R)), ("many", 0)),
    (least(withs(Z, R), ("both", R, withs(Z, Z))), (2, 2)),
    (least(("both", withs(Z, Z, Z, Z, Z), R)), ("many", "many")),
    (least(("least", "s", (), ("both", Z, withs(R, ("call", "s", ()))), ("call", "s", ()))), (1, "many")),
    (least(("both", Z, ("let", "s", (), R, withs(("call", "s", ()), ("call", "s", ()))))), (1, "many")),
]


class PlainSets:
    """For each term the set of the numbers of rows in its grounds, numbers above 3 being 4."""

    def __init__(self, term, name):
        self.name = name
        self.of_names = {}
        self.collect(term)
        while True:
            wider = {called: self.numbers(s) for called, s in self.sources.items()}
            if wider == self.of_names:
                break
            self.of_names = wider
        self.found = self.numbers(term)

    def collect(self, term):
        self.sources = getattr(self, "sources", {})
        if term[0] in ("let", "least"):
            self.sources[term[1]] = term[3]
            self.of_names[term[1]] = set()
        for part in parts(term):
            self.collect(part)

    def numbers(self, term):
        word = term[0]
        if word == "table":
            return {1 if term[1] == self.name else 0}
        if word == "worth":
            return {0}
        if word == "call":
            return self.of_names[term[1]]
        inner = [self.numbers(part) for part in parts(term)]
        if word == "both":
            return inner[0] | inner[1]
        if word == "with":
            return {min(a + b, 4) for a in inner[0] for b in inner[1]}
        return inner[-1]

    def grade(self):
        if not self.found:
            return ("many", 0)
        return tuple("many" if number == 4 else number for number in (min(self.found), max(self.found)))


def plain_is_ground(term, sources, value):
    word = term[0]
    if word in ("over", "where", "let", "least"):
        return plain_is_ground(parts(term)[-1], sources, value)
    if type(value) is not tuple:
        return False
    if word == "table":
        return value == ("row", term[1])
    if word == "worth":
        return value == ("one",)
    if word == "call":
        return len(value) == 3 and value[:2] == ("call", term[1]) and plain_is_ground(sources[term[1]], sources, value[2])
    if word == "with":
        holds = len(value) == 3 and value[0] == "with"
        return holds and all(plain_is_ground(part, sources, ground) for part, ground in zip(term[1:], value[1:]))
    if len(value) != 2 or value[0] not in ("left", "right"):
        return False
    return plain_is_ground(term[1 if value[0] == "left" else 2], sources, value[1])


def random_cases(seed, many, most=25):
    cases = RandomQuestions(seed)
    for _ in range(many):
        yield cases.random, cases.question(SCALE, most)


class Grades(unittest.TestCase):
    def test_told_in_full(self):
        for term, expected in GRADES:
            self.assertEqual(grade(FRAME, SCALE, question(term), "z0"), expected, term)
            self.assertEqual(PlainSets(term, "z0").grade(), expected, term)
            found = grades(FRAME, SCALE, question(term))
            self.assertEqual(list(found), [name for name, _ in FRAME.told()])
            self.assertEqual(found["z0"], expected)
            # What has no ground has none for any table.
            self.assertEqual(found["b"], ("many", 0) if expected == ("many", 0) else (0, 0))

    def test_against_the_plain_way(self):
        seen = {}
        for _, asked in random_cases(51, 250):
            found = grades(FRAME, SCALE, asked)
            for name in found:
                self.assertEqual(found[name], PlainSets(asked[1], name).grade(), asked)
                self.assertEqual(grade(FRAME, SCALE, asked, name), found[name])
                seen[found[name]] = True
        self.assertGreater(len(seen), 10)

    def test_scales_need_not_be_steady(self):
        self.assertEqual(grade(FRAME, TurnScale(3), question(least(("both", Z, withs(Z, R)))), "z0"), (1, "many"))

    def test_answer_belongs_to_the_caller(self):
        grades(FRAME, SCALE, question(Z)).clear()
        self.assertEqual(grades(FRAME, SCALE, question(Z))["z0"], (1, 1))


class Grounds(unittest.TestCase):
    def test_told_in_full(self):
        term = least(("both", Z, withs(R, ("table", "a", ("@c",)))), ("both", ONE, ("with", R, R)))
        asked = question(term)
        deeper = ("call", "r", ("right", ("with", ("call", "r", ("left", Z_ROW)), A_ROW)))
        for ground in [("left", ONE_GROUND), ("right", ("with", ("call", "r", ("left", Z_ROW)), deeper))]:
            self.assertIs(is_ground(FRAME, SCALE, asked, ground), True)
        self.assertEqual(rows_in(("right", ("with", ("call", "r", ("left", Z_ROW)), deeper))), {"z0": 2, "a": 1})
        self.assertEqual(rows_in(("left", ONE_GROUND)), {})
        self.assertEqual(few_ground(FRAME, SCALE, asked, "z0"), ("left", ONE_GROUND))
        # Those of an over or a where are those of s, those of a let or a least those of t.
        self.assertTrue(is_ground(FRAME, SCALE, question(("over", "x", ("table", "a", ("x",)))), A_ROW))
        self.assertTrue(is_ground(FRAME, SCALE, question(("let", "r", (), Z, ONE)), ONE_GROUND))
        self.assertFalse(is_ground(FRAME, SCALE, question(("let", "r", (), Z, ONE)), Z_ROW))

    def test_values_that_are_none(self):
        asked = question(least(("both", Z, withs(R, Z)), ("both", ONE, ("with", R, ONE))))
        good = ("right", ("with", ("call", "r", ("left", Z_ROW)), ONE_GROUND))
        self.assertTrue(is_ground(FRAME, SCALE, asked, good))
        bad_ones = ODD_VALUES + [ONE_GROUND, Z_ROW, list(good), ("left",), ("right",), ("left", Z_ROW), ("middle", ONE_GROUND)]
        bad_ones += [("left", ONE_GROUND, ()), ("left", ["one"]), ("left", ("one", ())), ("left", "one"), (["left"], ONE_GROUND)]
        bad_ones += [("right", ("with",) + rest) for rest in [(), (ONE_GROUND,), (ONE_GROUND, ONE_GROUND), (good[1][1],)]]
        bad_ones += [("right", ("with", call, ONE_GROUND)) for call in [
            ("call", "r", Z_ROW), ("call", "s", ("left", Z_ROW)), ("call", "r"), ("call", "r", ("left", Z_ROW), ()),
            ["call", "r", ("left", Z_ROW)], ("call", "r", None), ("call", ["r"], ("left", Z_ROW)), ("left", Z_ROW),
        ]]
        bad_ones += [("right", good[1] + (ONE_GROUND,)), ("right", ("with", ONE_GROUND, good[1][1])), ("right", ["with", *good[1][1:]])]
        for bad in bad_ones:
            self.assertIs(is_ground(FRAME, SCALE, asked, bad), False, bad)

    def test_as_few_and_as_many_as_the_grade_tells(self):
        for _, asked in random_cases(52, 150):
            sources = sources_of(asked[1])
            for name, (few, most) in grades(FRAME, SCALE, asked).items():
                least_one, most_one = few_ground(FRAME, SCALE, asked, name), most_ground(FRAME, SCALE, asked, name)
                if least_one is None or most_one is None:
                    self.assertEqual((least_one, most_one, few, most), (None, None, "many", 0))
                    continue
                for ground in (least_one, most_one):
                    self.assertTrue(plain_is_ground(asked[1], sources, ground))
                    self.assertTrue(is_ground(FRAME, SCALE, asked, ground))
                many = rows_in(least_one).get(name, 0)
                self.assertTrue(many == few or few == "many" and many > 3)
                many = rows_in(most_one).get(name, 0)
                self.assertTrue(many == most or most == "many" and many > 3)

    def test_against_the_plain_way(self):
        for rng, asked in random_cases(53, 120):
            sources = sources_of(asked[1])
            name = rng.choice(["a", "t", "z0"])
            ground = most_ground(FRAME, SCALE, asked, name)
            for _ in range(6):
                other = exchanged_ground(rng, ground)
                self.assertEqual(is_ground(FRAME, SCALE, asked, other), plain_is_ground(asked[1], sources, other))

    def test_a_ground_that_is_very_high(self):
        ground = ("left", Z_ROW)
        for _ in range(3000):
            ground = ("right", ("with", Z_ROW, ("call", "r", ground)))
        asked = question(least(("both", Z, withs(Z, R))))
        self.assertTrue(is_ground(FRAME, SCALE, asked, ("call", "r", ground)))
        self.assertFalse(is_ground(FRAME, SCALE, asked, ground))
        self.assertEqual(rows_in(ground), {"z0": 3001})

    def test_many_calls(self):
        term = ("both", withs(*[R] * 30), Z)
        asked = question(least(term))
        self.assertEqual(rows_in(few_ground(FRAME, SCALE, asked, "z0")), {"z0": 1})
        self.assertGreater(rows_in(most_ground(FRAME, SCALE, asked, "z0"))["z0"], 3)


def sources_of(term):
    found = {term[1]: term[3]} if term[0] in ("let", "least") else {}
    for part in parts(term):
        found.update(sources_of(part))
    return found


def exchanged_ground(rng, value):
    if type(value) is tuple and value and rng.random() < 0.85:
        k = rng.randrange(len(value))
        return value[:k] + (exchanged_ground(rng, value[k]),) + value[k + 1 :]
    return rng.choice([value, Z_ROW, A_ROW, ONE_GROUND, "left", "right", "with", "call", ("left", ONE_GROUND), None, ()])


LOWS = (0, 1, 2, 3, "many")


def rank(bound):
    return {None: -1, "many": 4}.get(bound, bound)


def plain_pair(term, name, bounds):
    """The pair (low, high) of a term, as numbers."""
    word = term[0]
    if word == "table":
        return (1, 1) if term[1] == name else (0, 0)
    if word == "worth":
        return (0, 0)
    if word == "call":
        return tuple(rank(bound) for bound in bounds[term[1]])
    inner = [plain_pair(part, name, bounds) for part in parts(term)]
    if word == "both":
        return (min(inner[0][0], inner[1][0]), max(inner[0][1], inner[1][1]))
    if word == "with":
        highs = [pair[1] for pair in inner]
        return (min(inner[0][0] + inner[1][0], 4), -1 if -1 in highs else min(sum(highs), 4))
    return inner[-1]


def plain_hold(term, name, bounds):
    for called, s in sources_of(term).items():
        low, high = plain_pair(s, name, bounds)
        if rank(bounds[called][0]) > low or high > rank(bounds[called][1]):
            return False
    return True


def told(number):
    return {-1: None, 4: "many"}.get(number, number)


class Bounds(unittest.TestCase):
    def test_told_in_full(self):
        asked = question(least(("both", Z, withs(Z, R))))
        self.assertTrue(are_bounds(FRAME, SCALE, asked, "z0", {"r": (1, "many")}))
        self.assertTrue(are_bounds(FRAME, SCALE, asked, "z0", {"r": (0, "many")}))
        self.assertFalse(are_bounds(FRAME, SCALE, asked, "z0", {"r": (2, "many")}))
        self.assertFalse(are_bounds(FRAME, SCALE, asked, "z0", {"r": (1, 3)}))
        self.assertFalse(are_bounds(FRAME, SCALE, asked, "z0", {"r": (1, None)}))
        self.assertEqual(bounded(FRAME, SCALE, asked, "z0", {"r": (0, "many")}), (0, "many"))
        self.assertEqual(grade_bounds(FRAME, SCALE, question(ONE), "z0"), {})
        self.assertTrue(are_bounds(FRAME, SCALE, question(ONE), "z0", {}))
        # A least that only calls itself has no ground: its low may be any one, its high None.
        asked = question(least(withs(Z, R)))
        self.assertTrue(are_bounds(FRAME, SCALE, asked, "z0", {"r": ("many", None)}))
        self.assertEqual(bounded(FRAME, SCALE, asked, "z0", {"r": ("many", None)}), ("many", None))
        self.assertFalse(are_bounds(FRAME, SCALE, asked, "z0", {"r": ("many", 0)}))
        self.assertTrue(are_bounds(FRAME, SCALE, asked, "z0", {"r": (0, "many")}))

    def test_the_grade_by_bounds(self):
        for term, expected in GRADES:
            self.check_grade_bounds(question(term), "z0", expected)
        for _, asked in random_cases(54, 150):
            for name, expected in grades(FRAME, SCALE, asked).items():
                self.check_grade_bounds(asked, name, expected)

    def check_grade_bounds(self, asked, name, expected):
        bounds = grade_bounds(FRAME, SCALE, asked, name)
        self.assertEqual(set(bounds), set(names_of(asked)))
        self.assertIs(are_bounds(FRAME, SCALE, asked, name, bounds), True)
        self.assertTrue(plain_hold(asked[1], name, bounds))
        low, high = bounded(FRAME, SCALE, asked, name, bounds)
        self.assertEqual((low, 0 if high is None else high), expected, asked)
        self.assertEqual(high is None, expected == ("many", 0))

    def test_all_pairs_of_bounds(self):
        holding = 0
        pairs = list(itertools.product(LOWS, LOWS + (None,)))
        for rng, asked in random_cases(55, 120, 16):
            name = rng.choice(["a", "t", "z0"])
            names = names_of(asked)
            few, most = grade(FRAME, SCALE, asked, name)
            for _ in range(40):
                bounds = {called: rng.choice(pairs) for called in names}
                holds = plain_hold(asked[1], name, bounds)
                self.assertIs(are_bounds(FRAME, SCALE, asked, name, bounds), holds)
                found = bounded(FRAME, SCALE, asked, name, bounds)
                self.assertEqual(found, tuple(told(number) for number in plain_pair(asked[1], name, bounds)))
                if holds:
                    # No ground has fewer rows than low, none has more than high.
                    self.assertLessEqual(rank(found[0]), rank(few))
                    self.assertTrue((few, most) == ("many", 0) or rank(most) <= rank(found[1]))
                    holding += len(names) > 0
        self.assertGreater(holding, 30)

    def test_values_that_are_no_bounds(self):
        asked = question(("let", "q", (), Z, least(("both", Z, withs(Z, R)))))
        good = {"q": (0, 3), "r": (1, "many")}
        self.assertTrue(are_bounds(FRAME, SCALE, asked, "z0", good))
        bad_ones = ODD_VALUES + [{"q": (0, 3)}, {**good, "s": (0, 3)}, {**good, None: (0, 3)}, list(good.items()), tuple(good)]
        bad_ones += [{"q": (0, 3), "s": (1, "many")}, {"r": (1, "many"), 0: (0, 3)}]
        for pair in ODD_VALUES + [(0,), (0, 3, 3), [0, 3], (True, 3), (0, True), (False, 3), (4, "many"), (0, 4), (-1, 3), (0, -1)]:
            bad_ones.append({**good, "q": pair})
        for pair in [(None, 3), ("none", 3), (0, "none"), ("0", 3), (0, "3"), ([], 3), (0, []), (0, {}), ((), 3), "03", "many"]:
            bad_ones.append({**good, "q": pair})
        for bad in bad_ones:
            self.assertIs(are_bounds(FRAME, SCALE, asked, "z0", bad), False, bad)

    def test_nothing_is_changed_or_shared(self):
        asked = question(least(("both", Z, withs(Z, R))))
        bounds = {"r": (0, "many")}
        are_bounds(FRAME, SCALE, asked, "z0", bounds)
        bounded(FRAME, SCALE, asked, "z0", bounds)
        self.assertEqual(bounds, {"r": (0, "many")})
        grade_bounds(FRAME, SCALE, asked, "z0").clear()
        rows_in(Z_ROW).clear()
        self.assertEqual(grade_bounds(FRAME, SCALE, asked, "z0"), {"r": (1, "many")})
        self.assertEqual(rows_in(Z_ROW), {"z0": 1})


class Errors(unittest.TestCase):
    CALLS = [grade, few_ground, most_ground, grade_bounds]
    CALLS += [lambda *rest: are_bounds(*rest, None), lambda *rest: bounded(*rest, None)]

    def test_not_told(self):
        for name in ("zz", "gone", "", "r", "q.0", "A"):
            for call in self.CALLS:
                with self.assertRaises(NotTold) as caught:
                    call(FRAME, SCALE, question(least(Z)), name)
                self.assertEqual(caught.exception.name, name)

    def test_a_wrong_question_comes_first(self):
        for wrong in (None, question(("worth", "9")), question(("both", Z, ("call", "r", ())))):
            for call in self.CALLS:
                with self.assertRaises(BadQuestion):
                    call(FRAME, SCALE, wrong, "zz")
            with self.assertRaises(BadQuestion):
                grades(FRAME, SCALE, wrong)
            with self.assertRaises(BadQuestion):
                is_ground(FRAME, SCALE, wrong, None)


if __name__ == "__main__":
    unittest.main()

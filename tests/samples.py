"""What several tests use: values of all kinds, scales, frames, stores, programs, and random ones."""

import random

from worthhouse.frames import Frame
from worthhouse.rules import Program
from worthhouse.scales import (
    CostScale,
    CountScale,
    FewScale,
    LevelScale,
    MostScale,
    PairScale,
    TableScale,
    TurnScale,
)
from worthhouse.stores import Store

# None of these is a worth, a word, a scale, a frame, a fact, a rule or a table of worths anywhere.
ODD_VALUES = ["", "Zz", "no such", None, 0, 1, -3, True, False, (), ("0",), [], ["0"], [[]], {}, {"0": "1"}, {0: []}]


def yes_no():
    """The scale of yes and no, told by hand."""
    return TableScale(
        ["no", "yes"], [["no", "yes"], ["yes", "yes"]], [["no", "no"], ["no", "yes"]], nought="no", one="yes"
    )


def lone():
    """The scale with one worth alone."""
    return TableScale(["w"], [["w"]], [["w"]], nought="w", one="w")


def turning():
    """A lawful scale of two worths that is not steady, told by hand."""
    return TableScale(["e", "o"], [["e", "o"], ["o", "e"]], [["e", "e"], ["e", "o"]], nought="e", one="o")


def families():
    """Each family with each top or size that it takes."""
    found = [CountScale(top) for top in range(1, 8)]
    found += [TurnScale(size) for size in range(2, 9)]
    found += [CostScale(top) for top in range(0, 7)]
    found += [LevelScale(top) for top in range(1, 8)]
    found += [FewScale(top) for top in range(0, 7)]
    found += [MostScale(top) for top in range(0, 6)]
    return found


def pairs():
    return [
        PairScale(CountScale(2), LevelScale(3)),
        PairScale(CostScale(1), yes_no()),
        PairScale(lone(), TurnScale(8)),
        PairScale(TurnScale(2), CountScale(2)),
        PairScale(MostScale(0), FewScale(1)),
    ]


def small_scales():
    """Lawful scales of at most six worths."""
    found = [yes_no(), lone(), turning()]
    return found + [scale for scale in families() + pairs() if len(scale) <= 6]


def steady_scales():
    return [yes_no(), lone(), CountScale(3), CostScale(2), LevelScale(3), FewScale(1), MostScale(2), pairs()[0]]


def road_frame():
    """A frame with two kinds, tables of all sizes, told and ruled."""
    return Frame(
        ["town", "sort"],
        [("road", ("town", "town")), ("is", ("town", "sort")), ("open", ()), ("deal", ("town", "sort", "town"))],
        [("way", ("town", "town")), ("good", ("town",)), ("any", ()), ("swap", ("town", "sort", "town"))],
    )


def road_store(scale=None):
    scale = CostScale(6) if scale is None else scale
    one = scale.one
    return Store(
        road_frame(),
        scale,
        [("a", "town"), ("red", "sort"), ("b", "town"), ("c", "town"), ("blue", "sort")],
        [
            ("road", ("a", "b"), one),
            ("road", ("b", "c"), scale.worths()[-1]),
            ("road", ("c", "a"), scale.nought),
            ("is", ("a", "red"), one),
            ("is", ("c", "red"), one),
            ("open", (), one),
            ("deal", ("a", "red", "b"), one),
        ],
    )


def road_rules(scale):
    one = scale.one
    return [
        ("direct", ("way", ("x", "y")), (("road", ("x", "y")),), (), one),
        ("onward", ("way", ("x", "z")), (("way", ("x", "y")), ("road", ("y", "z"))), (("unlike", "x", "z"),), one),
        ("fine", ("good", ("x",)), (("is", ("x", "@red")), ("way", ("x", "y"))), (), scale.worths()[-1]),
        ("some", ("any", ()), (("good", ("x",)), ("open", ())), (), one),
        ("fixed", ("good", ("@b",)), (), (), one),
        ("deals", ("swap", ("x", "s", "y")), (("deal", ("x", "s", "y")), ("good", ("y",))), (("same", "s", "@red"),), one),
        ("twice", ("any", ()), (("any", ()), ("any", ())), (), one),
    ]


def road_program(scale=None):
    scale = CostScale(6) if scale is None else scale
    return Program(road_frame(), scale, road_rules(scale))


class RandomCases:
    """Programs with stores that they fit, made by a seed."""

    def __init__(self, seed):
        self.random = random.Random(seed)

    def case(self, scale):
        self.kinds = ["k", "m"][: self.random.randint(1, 2)]
        told = [("t" + str(k), self.some_kinds(3)) for k in range(self.random.randint(1, 3))]
        ruled = [("r" + str(k), self.some_kinds(2)) for k in range(self.random.randint(1, 4))]
        self.frame = Frame(self.kinds, told, ruled)
        many = self.random.randint(0, 4)
        things = [("c" + str(k), self.random.choice(self.kinds)) for k in range(many)]
        self.things = dict(things)
        bare = Store(self.frame, scale, things, [])
        facts = [fact for name, _ in told for fact in bare.facts_of(name)]
        chosen = [fact for fact in facts if self.random.random() < 0.6][:60]
        self.random.shuffle(chosen)
        store = bare.with_rows([fact + (self.random.choice(scale.worths()),) for fact in chosen])
        return self.program(scale), store

    def some_kinds(self, most):
        return tuple(self.random.choice(self.kinds) for _ in range(self.random.randint(0, most)))

    def program(self, scale):
        rules = []
        wanted = self.random.randint(0, 6)
        for _ in range(wanted * 30):
            if len(rules) < wanted:
                rule = self.rule(scale, len(rules))
                if rule is not None:
                    rules.append(rule)
        return Program(self.frame, scale, rules)

    def rule(self, scale, number):
        head = self.atom(self.frame.ruled())
        every = self.frame.told() + self.frame.ruled()
        body = tuple(self.atom(every) for _ in range(self.random.randint(0, 3)))
        names = [place for _, places in body for place in places if place[0] != "@"]
        tests = []
        for _ in range(self.random.choice([0, 0, 1, 2])):
            if names:
                one = self.random.choice(names)
                kind = one[0]
                others = [name for name in names if name[0] == kind]
                others += ["@" + thing for thing in self.things if self.things[thing] == kind]
                places = [one, self.random.choice(others)]
                self.random.shuffle(places)
                tests.append((self.random.choice(["same", "unlike", "unlike"]), places[0], places[1]))
        if not all(place[0] == "@" or place in names for place in head[1]):
            return None
        return ("w" + str(number), head, body, tuple(tests), self.random.choice(scale.worths()))

    def atom(self, tables):
        name, kinds = self.random.choice(tables)
        return (name, tuple(self.place(kind) for kind in kinds))

    def place(self, kind):
        things = [thing for thing in self.things if self.things[thing] == kind]
        if things and self.random.random() < 0.15:
            return "@" + self.random.choice(things)
        return kind + self.random.choice(["x", "y", "z"])

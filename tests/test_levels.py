import unittest

from tests.samples import RandomCases, road_program, road_store, steady_scales, turning
from worthhouse.errors import NotSteady
from worthhouse.frames import Frame
from worthhouse.levels import levels, settled_by_levels
from worthhouse.rounds import ruled_facts, settled
from worthhouse.rules import Program
from worthhouse.scales import CountScale, TurnScale
from worthhouse.stores import Store

COUNTS = CountScale(7)


def program_of(tables, uses, scale=COUNTS):
    """A program over tables without places; uses has pairs (name, names): a rule with a body of these."""
    frame = Frame([], [("t", ())], [(name, ()) for name in tables])
    rules = [
        (f"r{k}", (name, ()), tuple((other, ()) for other in body), (), scale.one) for k, (name, body) in enumerate(uses)
    ]
    return Program(frame, scale, rules)


def store_for(program, rows=()):
    return Store(program.frame, program.scale, [], rows)


def plain_hangs(program):
    """The pairs of ruled tables the first of which hangs on the second."""
    pairs = set()
    for _, head, body, _, _ in program.rules():
        pairs |= {(head[0], name) for name, _ in body if program.frame.is_ruled(name)}
    while True:
        wider = pairs | {(a, d) for a, b in pairs for c, d in pairs if b == c}
        if wider == pairs:
            return pairs
        pairs = wider


def plain_levels(program):
    names = [name for name, _ in program.frame.ruled()]
    hangs = plain_hangs(program)
    left = []
    for name in names:
        level = [other for other in names if other == name or {(name, other), (other, name)} <= hangs]
        if level not in left:
            left.append(level)
    found = []
    while left:
        for level in left:
            if not any((level[0], name) in hangs for other in left if other != level for name in other):
                found.append(level)
                left.remove(level)
                break
    return found


class Levels(unittest.TestCase):
    def test_told_in_full(self):
        self.assertEqual(levels(program_of("abc", [])), [["a"], ["b"], ["c"]])
        self.assertEqual(levels(program_of("abc", [("a", "b"), ("b", "c")])), [["c"], ["b"], ["a"]])
        self.assertEqual(levels(program_of("abc", [("a", "c"), ("c", "a")])), [["a", "c"], ["b"]])
        self.assertEqual(levels(program_of("abc", [("a", "c"), ("c", "a"), ("a", "b")])), [["b"], ["a", "c"]])
        self.assertEqual(levels(program_of("abcd", [("b", "d"), ("d", "c"), ("c", "b")])), [["a"], ["b", "c", "d"]])
        self.assertEqual(levels(program_of("ab", [("a", "a"), ("b", "t")])), [["a"], ["b"]])
        self.assertEqual(levels(program_of("", [])), [])

    def test_where_several_may_come_next(self):
        # Behind c both b and d may come; b stands first. Then a may come, ahead of d.
        self.assertEqual(levels(program_of("abcd", [("a", "b"), ("b", "c"), ("d", "c")])), [["c"], ["b"], ["a"], ["d"]])
        self.assertEqual(levels(program_of("abcd", [("a", "d"), ("b", "c")])), [["c"], ["b"], ["d"], ["a"]])
        # The first table of a level counts: a and d are one level, which hangs on e.
        self.assertEqual(
            levels(program_of("abcde", [("a", "d"), ("d", "ae"), ("b", "c")])), [["c"], ["b"], ["e"], ["a", "d"]]
        )

    def test_roads(self):
        self.assertEqual(levels(road_program()), [["way"], ["good"], ["any"], ["swap"]])

    def test_against_the_plain_way(self):
        cases = RandomCases(61)
        many = set()
        for _ in range(150):
            program, _ = cases.case(COUNTS)
            found = levels(program)
            self.assertEqual(found, plain_levels(program))
            many.add(tuple(map(len, found)))
        self.assertGreater(len(many), 5)
        for _ in range(200):
            names = "abcdef"
            uses = [(cases.random.choice(names), cases.random.choices(names, k=1)) for _ in range(cases.random.randint(2, 9))]
            program = program_of(names, uses)
            self.assertEqual(levels(program), plain_levels(program))

    def test_answer_belongs_to_the_caller(self):
        program = road_program()
        levels(program)[0].append("zz")
        self.assertEqual(levels(program)[0], ["way"])


class SettledByLevels(unittest.TestCase):
    def test_counts(self):
        program = program_of("abc", [("a", "b"), ("b", "bt"), ("b", ""), ("c", "t")])
        table, counts = settled_by_levels(program, store_for(program, [("t", (), "1")]))
        self.assertEqual(levels(program), [["b"], ["a"], ["c"]])
        self.assertEqual(table, {("a", ()): "7", ("b", ()): "7", ("c", ()): "1"})
        self.assertEqual(counts, [7, 1, 1])
        table, counts = settled_by_levels(program, store_for(program))
        self.assertEqual((list(table.values()), counts), (["1", "1", "0"], [1, 1, 0]))

    def test_levels_without_facts(self):
        frame = Frame(["k"], [], [("p", ("k",)), ("q", ())])
        program = Program(frame, COUNTS, [("r", ("q", ()), (), (), "3")])
        self.assertEqual(settled_by_levels(program, Store(frame, COUNTS, [], [])), ({("q", ()): "3"}, [0, 1]))
        empty = Frame([], [], [])
        self.assertEqual(settled_by_levels(Program(empty, COUNTS, []), Store(empty, COUNTS, [], [])), ({}, []))

    def test_the_table_is_that_of_settled(self):
        cases = RandomCases(62)
        scales = steady_scales()
        for k in range(150):
            program, store = cases.case(scales[k % len(scales)])
            table, counts = settled_by_levels(program, store)
            self.assertEqual(table, settled(program, store)[0])
            self.assertEqual(list(table), ruled_facts(program, store))
            self.assertEqual(counts, self.plain_counts(program, store))

    def plain_counts(self, program, store):
        """Each level alone: the rules of its tables, with the settled worths of the others as told rows."""
        final = settled(program, store)[0]
        found = []
        for level in levels(program):
            ruled = [entry for entry in program.frame.ruled() if entry[0] in level]
            others = [entry for entry in program.frame.ruled() if entry[0] not in level]
            frame = Frame(program.frame.kinds(), program.frame.told() + others, ruled)
            rules = [rule for rule in program.rules() if rule[1][0] in level]
            rows = store.rows() + [fact + (final[fact],) for fact in final if fact[0] not in level]
            alone = Program(frame, program.scale, rules)
            found.append(settled(alone, Store(frame, program.scale, store.things(), rows))[1])
        return found

    def test_not_steady(self):
        for scale in (turning(), TurnScale(3)):
            with self.assertRaises(NotSteady):
                settled_by_levels(road_program(scale), road_store(scale))

    def test_answer_belongs_to_the_caller(self):
        program, store = road_program(), road_store()
        table, counts = settled_by_levels(program, store)
        expected = (dict(table), list(counts))
        table.clear()
        counts.clear()
        self.assertEqual(settled_by_levels(program, store), expected)


if __name__ == "__main__":
    unittest.main()

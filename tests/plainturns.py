"""Turns once more, by texts: places are exchanged in lists of words; and lines are led by their trees.

A use is found by its label and by the facts of its body, which tell the things of all variables.
"""

import itertools

from tests.plain import plain_uses
from worthhouse.frames import made_frame
from worthhouse.rules import made_program


def exchanged(value, old, new):
    """A rule's part with a place exchanged throughout."""
    if isinstance(value, tuple):
        return tuple(exchanged(part, old, new) for part in value)
    return new if value == old else value


def places_of(rule):
    _, head, body, tests, _ = rule
    return [place for places in [head[1]] + [atom[1] for atom in body] + [test[1:] for test in tests] for place in places]


def variables_of(rule):
    return list(dict.fromkeys(place for place in places_of(rule) if place[0] != "@"))


def inner(rule):
    """What of a rule has places: those of the head, of the body and of the tests, without names and words."""
    _, head, body, tests, _ = rule
    return (head[1], tuple(atom[1] for atom in body), tuple(test[1:] for test in tests))


def with_inner(rule, parts):
    label, head, body, tests, worth = rule
    atoms = tuple((atom[0], places) for atom, places in zip(body, parts[1]))
    return (label, (head[0], parts[0]), atoms, tuple((test[0], *places) for test, places in zip(tests, parts[2])), worth)


def renamed(rule, old, new):
    return with_inner(rule, exchanged(inner(rule), old, new))


def without_things(tests):
    """The tests without those of two things; None if one of these does not hold."""
    left = []
    for word, p, q in tests:
        if p[0] == "@" == q[0]:
            if (p == q) != (word == "same"):
                return None
        else:
            left.append((word, p, q))
    return tuple(left)


class PlainTurn:
    """The program behind a turn, and where its rules come from."""

    def __init__(self, program, turn):
        self.program, self.turn = program, turn
        self.rules = program.rules()
        self.taken = set(program.labels())
        self.frame = program.frame
        self.came_of = {}
        getattr(self, turn[0])(*turn[1:])
        self.behind = made_program(self.frame, program.scale, self.rules)

    def label(self, label):
        word = label.split(".")[0]
        found = next(f"{word}.{k}" for k in itertools.count() if f"{word}.{k}" not in self.taken)
        self.taken.add(found)
        return found

    def table(self, kinds):
        names = [name for name, _ in self.frame.told() + self.frame.ruled()]
        name = next(f"n.{k}" for k in itertools.count() if f"n.{k}" not in names)
        self.frame = made_frame(self.frame.kinds(), self.frame.told(), self.frame.ruled() + [(name, tuple(kinds))])
        return name

    def exchange(self, label, rules):
        self.rules = [new for rule in self.rules for new in (rules if rule[0] == label else [rule])]

    def unfold(self, label, at):
        rule = self.program.rule(label)
        found = []
        for s in self.program.rules():
            if s[1][0] == rule[2][at][0]:
                new = self.met(rule, at, s)
                if new is not None:
                    new = (self.label(label),) + new[1:]
                    self.came_of[new[0]] = s[0]
                    found.append(new)
        self.exchange(label, found)

    def met(self, rule, at, s):
        order = variables_of(rule)
        words = (f"u{k}" for k in itertools.count() if f"u{k}" not in order)
        own = variables_of(s)
        for number, variable in enumerate(own):
            s = renamed(s, variable, f"+{number}")
        for number in range(len(own)):
            s = renamed(s, f"+{number}", next(words))
        for place in range(len(s[1][1])):
            one, other = s[1][1][place], rule[2][at][1][place]
            if one == other:
                continue
            if one[0] != "@" and one not in order or one[0] != "@" and other[0] == "@":
                old, new = one, other
            elif one[0] == "@" and other[0] == "@":
                return None
            elif one[0] == "@":
                old, new = other, one
            else:
                new, old = sorted([one, other], key=order.index)
            rule, s = renamed(rule, old, new), renamed(s, old, new)
        tests = without_things(rule[3] + s[3])
        if tests is None:
            return None
        body = rule[2][:at] + s[2] + rule[2][at + 1:]
        return (rule[0], rule[1], body, tests, self.program.scale.times(rule[4], s[4]))

    def fold(self, label, places):
        rule = self.program.rule(label)
        named = [rule[2][k] for k in places]
        rest = rule[:2] + (tuple(atom for k, atom in enumerate(rule[2]) if k not in places),) + rule[3:]
        columns = [place for place in dict.fromkeys(p for atom in named for p in atom[1]) if place[0] != "@" and place in places_of(rest)]
        self.name = self.table([self.program.kind_at(label, column) for column in columns])
        body = [(self.name, tuple(columns)) if k == places[0] else atom for k, atom in enumerate(rule[2]) if k not in places[1:]]
        self.exchange(label, [rule[:2] + (tuple(body),) + rule[3:]])
        self.own = self.label("n")
        self.rules.append((self.own, (self.name, tuple(columns)), tuple(named), (), self.program.scale.one))

    def drop(self, names):
        kept = set(names)
        for _ in self.rules:
            kept |= {atom[0] for rule in self.rules if rule[1][0] in kept for atom in rule[2]}
        self.kept = kept
        self.rules = [rule for rule in self.rules if rule[1][0] in kept]

    def order(self, label, places):
        rule = self.program.rule(label)
        self.exchange(label, [rule[:2] + (tuple(rule[2][k] for k in places),) + rule[3:]])

    def join(self, label, other):
        rule, gone = self.program.rule(label), self.program.rule(other)
        self.exchange(label, [rule[:4] + (self.program.scale.plus(rule[4], gone[4]),)])
        self.exchange(other, [])

    def part(self, label, p, q):
        rule = self.program.rule(label)
        self.labels = [self.label(label), self.label(label)]
        self.exchange(label, [(new,) + rule[1:3] + (rule[3] + ((word, p, q),), rule[4]) for new, word in zip(self.labels, ["same", "unlike"])])

    def special(self, name, place, thing):
        kinds = list(self.frame.places(name))
        del kinds[place]
        self.name = self.table(kinds)
        copies = []
        for rule in self.program.rules():
            if rule[1][0] == name and (rule[1][1][place][0] != "@" or rule[1][1][place] == "@" + thing):
                copy = renamed(rule, rule[1][1][place], "@" + thing)
                tests = without_things(copy[3])
                if tests is not None:
                    head = (self.name, copy[1][1][:place] + copy[1][1][place + 1:])
                    new = self.label(rule[0])
                    self.came_of[rule[0]] = new
                    copies.append((new, head, copy[2], tests, copy[4]))

        def changed(atom):
            if atom[0] == name and atom[1][place] == "@" + thing:
                return (self.name, atom[1][:place] + atom[1][place + 1:])
            return atom

        self.rules = [rule[:2] + (tuple(changed(atom) for atom in rule[2]),) + rule[3:] for rule in self.rules + copies]


class Trees:
    """Trees led forth over a turn and back; a tree is (label, things, trees), by the uses of both programs."""

    def __init__(self, plain, store, over):
        self.plain = plain
        self.uses = {use[:2]: use for use in plain_uses(plain.program, store)}
        self.uses_behind = {use[:2]: use for use in plain_uses(plain.behind, over)}

    def facts(self, uses, program, tree):
        """The facts of the body of a tree's rule, in its order, with the trees for the ruled ones."""
        use = uses[tree[:2]]
        told, ruled = list(use[3]), list(zip(use[4], tree[2]))
        return [ruled.pop(0) if program.frame.is_ruled(atom[0]) else (told.pop(0), None) for atom in program.rule(use[0])[2]]

    def made(self, uses, program, label, body):
        """The tree of the rule with this label and these facts in its body."""
        told = tuple(fact for fact, _ in body if not program.frame.is_ruled(fact[0]))
        ruled = tuple(fact for fact, _ in body if program.frame.is_ruled(fact[0]))
        things = [use[1] for use in uses.values() if (use[0], use[3], use[4]) == (label, told, ruled)]
        assert len(things) == 1
        return (label, things[0], tuple(tree for _, tree in body if tree is not None))

    def fact(self, uses, tree):
        return uses[tree[:2]][2]

    def forth(self, tree):
        """The tree that a tree ahead of the turn becomes."""
        plain, turn, program = self.plain, self.plain.turn, self.plain.program
        if turn[0] == "drop":
            return tree
        body = [(fact, below) for fact, below in self.facts(self.uses, program, tree)]
        if turn[0] == "unfold" and tree[0] == turn[1]:
            child = body[turn[2]][1]
            label = {s: new for new, s in plain.came_of.items()}[child[0]]
            body[turn[2]:turn[2] + 1] = self.facts(self.uses, program, child)
            return self.made_forth(label, [(fact, below and self.forth(below)) for fact, below in body])
        flags = [False] * len(body)
        if turn[0] == "special":
            flags = [atom[0] == turn[1] and atom[1][turn[2]] == "@" + turn[3] for atom in program.rule(tree[0])[2]]
        led = [self.copied(below) if flag else (fact, below and self.forth(below)) for flag, (fact, below) in zip(flags, body)]
        label = tree[0]
        if turn[0] == "fold" and label == turn[1]:
            own = self.put_in(tree)
            led = [(self.fact(self.uses_behind, own), own) if k == turn[2][0] else one for k, one in enumerate(led) if k not in turn[2][1:]]
        elif turn[0] == "order" and label == turn[1]:
            led = [led[k] for k in turn[2]]
        elif turn[0] == "join" and label == turn[2]:
            label = turn[1]
        elif turn[0] == "part" and label == turn[1]:
            things = dict(zip(variables_of(program.rule(label)), tree[1]))
            label = plain.labels[things[turn[2]] != things[turn[3]]]
        return self.made_forth(label, led)

    def made_forth(self, label, body):
        return self.made(self.uses_behind, self.plain.behind, label, body)

    def put_in(self, tree):
        """The new table's tree for the named atoms of a tree of the folded rule."""
        body = [(fact, below and self.forth(below)) for fact, below in self.facts(self.uses, self.plain.program, tree)]
        return self.made_forth(self.plain.own, [body[k] for k in self.plain.turn[2]])

    def is_special(self, tree):
        _, name, place, thing = self.plain.turn
        fact = self.fact(self.uses, tree)
        return fact[0] == name and fact[1][place] == thing

    def copied(self, tree):
        """The pair of the new table's fact and the copy of a tree."""
        _, name, place, thing = self.plain.turn
        rule = self.plain.program.rule(tree[0])
        atoms = renamed(rule, rule[1][1][place], "@" + thing)[2]
        body = []
        for atom, (fact, below) in zip(atoms, self.facts(self.uses, self.plain.program, tree)):
            flag = atom[0] == name and atom[1][place] == "@" + thing
            body.append(self.copied(below) if flag else (fact, below and self.forth(below)))
        copy = self.made_forth(self.plain.came_of[tree[0]], body)
        return (self.fact(self.uses_behind, copy), copy)

    def all_forth(self, trees):
        """The trees of the led lines, in their order."""
        found = []
        for tree in trees:
            if self.plain.turn[0] == "drop" and not self.plain.behind.has_rule(tree[0]):
                continue
            if self.plain.turn[0] == "fold" and tree[0] == self.plain.turn[1]:
                found.append(self.put_in(tree))
            found.append(self.forth(tree))
            if self.plain.turn[0] == "special" and self.is_special(tree):
                found.append(self.copied(tree)[1])
        return list(dict.fromkeys(found))

"""Trees, lines and papers once more, in the plainest way; and programs with many lines."""

import itertools
import random

from tests.plain import plain_facts, plain_settled, plain_uses, plain_worth
from tests.samples import RandomCases
from worthhouse.frames import Frame
from worthhouse.rules import Program
from worthhouse.stores import Store


def plain_trees(program, store, fact, depth):
    """All trees for a fact of at most this depth."""
    uses = plain_uses(program, store)

    def trees_of(fact, depth):
        found = []
        for label, things, head, _, ruled in uses if depth > 0 else []:
            if head == fact:
                for trees in itertools.product(*[trees_of(below, depth - 1) for below in ruled]):
                    found.append((label, things, trees))
        return found

    return trees_of(fact, depth)


def plain_tree_worth(program, store, tree):
    uses = {use[:2]: use for use in plain_uses(program, store)}

    def worth(tree):
        found = plain_worth(program, store, uses[tree[:2]])
        for below in tree[2]:
            found = program.scale.times(found, worth(below))
        return found

    return worth(tree)


def plain_lines(program, store, lines):
    """(fact, worth, tree) for each line ahead of the first one that is not right, and its number or None."""
    uses = {use[:2]: use for use in plain_uses(program, store)}
    found = []
    for k, line in enumerate(lines):
        if not (type(line) is tuple and len(line) == 3 and any(line[0] == a and line[1] == b for a, b in uses)):
            return found, k
        use = uses[line[:2]]
        children = line[2]
        if type(children) is not tuple or len(children) != len(use[4]) or any(type(c) is not int for c in children):
            return found, k
        if any(not 0 <= child < k for child in children) or any(line == earlier for earlier in lines[:k]):
            return found, k
        if [found[child][0] for child in children] != list(use[4]):
            return found, k
        worth = plain_worth(program, store, use)
        for child in children:
            worth = program.scale.times(worth, found[child][1])
        found.append((use[2], worth, (use[0], use[1], tuple(found[child][2] for child in children))))
    return found, None


def plain_whole(program, store, facts):
    """The least whole set with these facts, in the order of all ruled facts."""
    uses = plain_uses(program, store)
    wanted = set(facts)
    while True:
        wider = wanted | {below for use in uses if use[2] in wanted for below in use[4]}
        if wider == wanted:
            return [fact for fact in plain_facts(program, store) if fact in wanted]
        wanted = wider


def plain_sums(program, store, paper):
    found, _ = plain_lines(program, store, paper[1])
    return {fact: program.scale.total([worth for head, worth, _ in found if head == fact]) for fact in paper[0]}


def plain_judge(program, store, paper):
    """What is first wrong about a paper that has the form of one."""
    scale = program.scale
    facts, lines = paper
    found, wrong = plain_lines(program, store, lines)
    if wrong is not None:
        return ("line", wrong)
    uses = [use for use in plain_uses(program, store) if use[2] in facts]
    for use in uses:
        for below in use[4]:
            if below not in facts:
                return ("loose", below)
    for k, (fact, _, _) in enumerate(found):
        if fact not in facts:
            return ("stray", k)
    sums = plain_sums(program, store, paper)
    for fact in facts:
        led = []
        for use in uses:
            if use[2] == fact:
                worth = plain_worth(program, store, use)
                for below in use[4]:
                    worth = scale.times(worth, sums[below])
                led.append(worth)
        if not any(scale.plus(scale.total(led), c) == sums[fact] for c in scale.worths()):
            return ("open", fact)
    return None


def plain_is_settled(program, store, paper):
    """Whether the paper's sums are the settled worths of its facts."""
    table, _ = plain_settled(program, store)
    return plain_sums(program, store, paper) == {fact: table[fact] for fact in paper[0]}


def without(lines, k):
    """The lines without line k and all that rest on it, numbered anew."""
    gone, places, left = {k}, {}, []
    for number, (label, things, children) in enumerate(lines):
        if number in gone or any(child in gone for child in children):
            gone.add(number)
        else:
            places[number] = len(left)
            left.append((label, things, tuple(places[child] for child in children)))
    return tuple(left)


WAY_FRAME = Frame(["k"], [("e", ("k", "k")), ("s", ("k",))], [("p", ("k", "k")), ("n", ("k",)), ("o", ())])


def way_case(rng, scale, many=3):
    """A program whose rules call themselves, over random edges: it has many trees and lines."""
    one, worths = scale.one, scale.worths()
    rules = [
        ("edge", ("p", ("x", "y")), (("e", ("x", "y")),), (), rng.choice([one, one, rng.choice(worths)])),
        ("far", ("p", ("x", "z")), (("p", ("x", "y")), ("p", ("y", "z"))), (), rng.choice([one, rng.choice(worths)])),
        ("here", ("n", ("x",)), (("s", ("x",)), ("p", ("x", "y"))), (("unlike", "x", "y"),), one),
        ("twice", ("o", ()), (("n", ("x",)), ("n", ("x",)), ("e", ("x", "y"))), (), rng.choice(worths)),
        ("alone", ("o", ()), (), (), rng.choice(worths)),
        ("back", ("n", ("@c0",)), (("o", ()),), (), one),
    ]
    chosen = [rule for rule in rules if rng.random() < 0.85]
    things = [(f"c{k}", "k") for k in range(many)]
    names = [thing for thing, _ in things]
    rows = [("e", pair, rng.choice(worths)) for pair in itertools.product(names, names) if rng.random() < 0.45]
    rows += [("s", (name,), rng.choice(worths)) for name in names if rng.random() < 0.7]
    rng.shuffle(rows)
    return Program(WAY_FRAME, scale, chosen), Store(WAY_FRAME, scale, things, rows)


def many_cases(seed, scales, many):
    """Programs with stores: half of them with many trees, half of any form."""
    rng = random.Random(seed)
    cases = RandomCases(seed)
    for k in range(many):
        scale = scales[k % len(scales)]
        yield cases.case(scale) if k % 2 else way_case(rng, scale)


def right_lines(rng, program, store, most):
    """Random right lines: each time a use and children that there are."""
    uses = plain_uses(program, store)
    lines, heads = [], []
    for _ in range(most * 3):
        if uses and len(lines) < most:
            use = rng.choice(uses)
            able = [[k for k, head in enumerate(heads) if head == below] for below in use[4]]
            if all(able):
                line = (use[0], use[1], tuple(rng.choice(numbers) for numbers in able))
                if line not in lines:
                    lines.append(line)
                    heads.append(use[2])
    return lines

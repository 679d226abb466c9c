"""Trees of facts, and lines that stand for them (points S4.1 and S4.2)."""

from worthhouse.errors import BadTree, NoLine
from worthhouse.rounds import need_ruled_facts
from worthhouse.rules import need_fit
from worthhouse.uses import row_worths, use_at, weight_of
from worthhouse.words import is_number


def is_tree(program, store, fact, value):
    """Whether the value, any one, is a tree for the fact."""
    need_fit(program, store)
    need_ruled_facts(program, store, [fact])
    uses = _uses_in(program, store, value)
    return uses is not None and uses[0][2] == fact


def fact_of(program, store, value):
    """The fact for which the value is a tree."""
    return _needed_uses(program, store, value)[0][2]


def worth_of(program, store, value):
    """The worth of a tree: the product of the worths of its uses."""
    uses = _needed_uses(program, store, value)
    worths = row_worths(store)
    worth = weight_of(program, worths, uses[0])
    for use in uses[1:]:
        worth = program.scale.times(worth, weight_of(program, worths, use))
    return worth


def first_wrong(program, store, lines):
    """The number of the first line that is not right, None if all are."""
    need_fit(program, store)
    return number_of_wrong(right_uses(program, store, lines), lines)


def line_facts(program, store, lines):
    """The list of the facts for which the lines are."""
    return [use[2] for use in uses_of_lines(program, store, lines)]


def line_worths(program, store, lines):
    """The list of the worths of the lines."""
    return worths_of_lines(program, store, lines, uses_of_lines(program, store, lines))


def tree_of(program, store, lines, k):
    """The tree for which line k stands."""
    uses_of_lines(program, store, lines)
    if not 0 <= k < len(lines):
        raise NoLine(k)
    trees = []
    for label, things, children in lines[:k + 1]:
        trees.append((label, things, tuple([trees[child] for child in children])))
    return trees[k]


def right_uses(program, store, lines):
    """The uses of the lines ahead of the first one that is not right, of a program that fits the store."""
    uses = []
    earlier = set()
    for line in lines:
        use = _use_of(program, store, line)
        if use is None or not _are_children(uses, use, line[2]) or line in earlier:
            return uses
        earlier.add(line)
        uses.append(use)
    return uses


def number_of_wrong(uses, lines):
    """The number of the first line that is not right, by what right_uses told; None if all are."""
    return len(uses) if len(uses) < len(lines) else None


def worths_of_lines(program, store, lines, uses):
    """The list of the worths of right lines, by their uses."""
    rows = row_worths(store)
    worths = []
    for line, use in zip(lines, uses):
        worth = weight_of(program, rows, use)
        for child in line[2]:
            worth = program.scale.times(worth, worths[child])
        worths.append(worth)
    return worths


def uses_of_lines(program, store, lines):
    """The list of the uses of the lines, all of which must be right."""
    need_fit(program, store)
    uses = right_uses(program, store, lines)
    if len(uses) < len(lines):
        raise NoLine(len(uses))
    return uses


def _use_of(program, store, value):
    """The use of a line or of the top of a tree, any value; None if it has none."""
    if not isinstance(value, tuple) or len(value) != 3:
        return None
    return use_at(program, store, value[0], value[1])


def _are_children(uses, use, children):
    """Whether the children, any value, are numbers of earlier lines for the ruled facts of the use."""
    if not isinstance(children, tuple) or len(children) != len(use[4]):
        return False
    if not all([is_number(child) and 0 <= child < len(uses) for child in children]):
        return False
    return all([uses[child][2] == fact for child, fact in zip(children, use[4])])


def _needed_uses(program, store, value):
    need_fit(program, store)
    uses = _uses_in(program, store, value)
    if uses is None:
        raise BadTree()
    return uses


def _uses_in(program, store, value):
    """The list of the uses in a tree, that at the top first; None if the value is no tree."""
    uses = []
    waiting = [(None, value)]
    while waiting:
        fact, tree = waiting.pop()
        use = _use_of(program, store, tree)
        if use is None or fact not in (None, use[2]):
            return None
        if not isinstance(tree[2], tuple) or len(tree[2]) != len(use[4]):
            return None
        uses.append(use)
        waiting.extend(list(zip(use[4], tree[2])))
    return uses

"""Trees listed and counted, depth by depth (point S4.1)."""

from worthhouse.errors import TooMany
from worthhouse.rounds import need_ruled_facts, ruled_facts
from worthhouse.uses import uses_of
from worthhouse.words import ways

MOST_TREES = 200


def grounds(program, store, fact, depth):
    """The list of all trees for the fact that have at most this depth."""
    by_head = _uses_by_head(program, store, fact)
    counts = _counts_by_depth(by_head, fact, depth)
    if counts[depth][fact] > MOST_TREES:
        raise TooMany()
    needed = _needed_by_depth(by_head, counts, fact, depth)
    trees = {below: [] for below in needed[0]}
    for level in range(1, depth + 1):
        trees = {
            head: [
                (use[0], use[1], below)
                for use in _standing(by_head[head], counts[level - 1])
                for below in ways([trees[ruled] for ruled in use[4]])
            ]
            for head in needed[level]
        }
    return trees[fact]


def tree_count(program, store, fact, depth):
    """How many trees for the fact have at most this depth."""
    return _counts_by_depth(_uses_by_head(program, store, fact), fact, depth)[depth][fact]


def _uses_by_head(program, store, fact):
    """A dict from all ruled facts to the lists of the uses for them; the fact, any value, must be one of them."""
    by_head = {head: [] for head in ruled_facts(program, store)}
    need_ruled_facts(program, store, [fact])
    for use in uses_of(program, store):
        by_head[use[2]].append(use)
    return by_head


def _counts_by_depth(by_head, fact, depth):
    """For each depth from 0 on a dict that tells how many trees the facts have; for the last one the fact's alone."""
    counts = [{head: 0 for head in by_head}]
    for level in range(1, depth + 1):
        heads = [fact] if level == depth else list(by_head)
        counts.append({head: sum([_many_over(use, counts[-1]) for use in by_head[head]]) for head in heads})
    return counts


def _many_over(use, counts):
    """How many trees have this use at their top, by the numbers of the trees below."""
    many = 1
    for fact in use[4]:
        many = many * counts[fact]
    return many


def _standing(uses, counts):
    """The uses that have a tree, by the numbers of the trees below."""
    return [use for use in uses if all([counts[fact] > 0 for fact in use[4]])]


def _needed_by_depth(by_head, counts, fact, depth):
    """For each depth from 0 on a dict of the facts whose trees of this depth are asked for."""
    needed = [{fact: True}]
    for level in reversed(range(depth)):
        uses = [use for head in needed[-1] for use in _standing(by_head[head], counts[level])]
        needed.append({below: True for use in uses for below in use[4]})
    return list(reversed(needed))

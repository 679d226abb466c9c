"""The least and the greatest numbers of rows in trees, found step by step.

A step is a tuple (head, number, below): a tree for the head has so many rows of its own,
and one tree for each entry of below.
"""

from worthhouse.groundforms import MANY, many_word


def spread_of(steps, head):
    """The pair (few, most) of a head, as S6.5 tells it, by the steps for it and for all below."""
    return spreads_of(steps, [head])[head]


def spreads_of(steps, heads):
    """A dict from the heads to their pairs (few, most)."""
    few = _best_numbers(steps, False)
    most = _best_numbers(steps, True)
    return {head: (many_word(few.get(head, MANY)), many_word(most.get(head, 0))) for head in heads}


def _best_numbers(steps, is_most):
    """A dict from the heads that have a tree to the best number of rows, MANY for those above 3."""
    needing = {}
    for step in steps:
        for below in {entry: True for entry in step[2]}:
            needing.setdefault(below, []).append(step)
    best = {}
    waiting = steps
    while waiting:
        further = []
        for head, number, below in waiting:
            if all([entry in best for entry in below]):
                found = min(number + sum([best[entry] for entry in below]), MANY)
                if head not in best or (found > best[head] if is_most else found < best[head]):
                    best[head] = found
                    further.extend(needing.get(head, []))
        waiting = further
    return best

"""Courses of worths, rests, and the order in which sums climb."""

from worthhouse.errors import NotSteady
from worthhouse.scales import need_worth


def course_of(scale, c):
    """The course of a worth up to its first return, and the place to which it returns (point S1.6)."""
    need_worth(scale, c)
    entries = [scale.nought]
    while True:
        further = scale.plus(scale.one, scale.times(c, entries[-1]))
        if further in entries:
            return (entries, entries.index(further))
        entries.append(further)


def rest_of(scale, c):
    """The least number behind which the course stays as it is, None if it never does."""
    entries, start = course_of(scale, c)
    if start == len(entries) - 1:
        return start
    return None


def steady(scale):
    """Whether each worth has a rest."""
    return all([rest_of(scale, c) is not None for c in scale.worths()])


def need_steady(scale):
    """Raises NotSteady unless the scale is steady."""
    if not steady(scale):
        raise NotSteady()


def within(scale, a, b):
    """Whether a and some worth have the sum b."""
    need_worth(scale, a)
    need_worth(scale, b)
    return any([scale.plus(a, c) == b for c in scale.worths()])


def height(scale):
    """How often a worth of a steady scale can climb, at most (point S1.7)."""
    need_steady(scale)
    worths = scale.worths()
    below = {b: [a for a in worths if a != b and within(scale, a, b)] for b in worths}
    longest = {b: 0 for b in worths}
    # Within is an order in a steady scale, so no chain has more steps than there are worths.
    for _ in worths:
        longest = {b: max([0] + [longest[a] + 1 for a in below[b]]) for b in worths}
    return max(longest.values())

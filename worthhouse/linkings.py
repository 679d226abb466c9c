"""Linkings: worths parted into blocks that sums and products keep; and quotients by them.

Inside this file a linking is mostly held as marks, a dict from each worth to what
marks its block: two worths stand in one block if they have the same mark.
"""

from worthhouse.errors import BadBlocks, NotLinked, TooMany
from worthhouse.scalemaps import ScaleMap
from worthhouse.scales import Scale, need_worth
from worthhouse.words import is_list

MOST_WORTHS = 8


def check_linking(scale, blocks):
    """Returns None if the blocks are a linking of the scale (point S1.9)."""
    _checked_marks(scale, blocks)


def least_linking(scale, pairs):
    """The least linking in which the worths of each pair stand together."""
    for pair in pairs:
        for worth in pair:
            need_worth(scale, worth)
    marks = {worth: worth for worth in scale.worths()}
    waiting = list(pairs)
    while waiting:
        a, b = waiting.pop()
        if marks[a] != marks[b]:
            marks = _with_one_mark(marks, marks[a], marks[b])
            waiting.extend(_followers(scale, a, b))
    return _in_form(scale, marks)


def met(scale, first, second):
    """The linking in which worths stand together if they do so in both."""
    marks = _checked_marks(scale, first)
    others = _checked_marks(scale, second)
    return _in_form(scale, {worth: (marks[worth], others[worth]) for worth in scale.worths()})


def joined_linking(scale, first, second):
    """The least linking in which worths stand together if they do so in one of the two."""
    check_linking(scale, first)
    check_linking(scale, second)
    return least_linking(scale, [(block[0], worth) for block in [*first, *second] for worth in block])


def kernel(m):
    """The linking of a map's source in which worths with the same image stand together."""
    return _in_form(m.source, dict(zip(m.source.worths(), m.images())))


def all_linkings(scale):
    """The list of all linkings in their one form, those with more blocks first (point S1.11)."""
    if len(scale) > MOST_WORTHS:
        raise TooMany()
    worths = scale.worths()
    found = []
    for row in _partings(len(worths)):
        marks = dict(zip(worths, row))
        if _first_unlinked(scale, marks) is None:
            found.append(_in_form(scale, marks))
    # The rows come in the order that the document asks for among as many blocks.
    return [blocks for size in range(len(worths), 0, -1) for blocks in found if len(blocks) == size]


def parting(scale, a, b):
    """The list of the coarsest linkings in which a and b do not stand together."""
    linkings = all_linkings(scale)
    need_worth(scale, a)
    need_worth(scale, b)
    unlike = []
    for blocks in linkings:
        marks = _marks_of(blocks)
        if marks[a] != marks[b]:
            unlike.append((blocks, marks))
    return [blocks for blocks, marks in unlike if not _has_coarser(unlike, blocks, marks)]


def quotient(scale, blocks):
    """The scale of the first worths of the blocks (point S1.12)."""
    firsts = _firsts(scale, _checked_marks(scale, blocks))
    worths = [worth for worth in scale.worths() if firsts[worth] == worth]
    sums = [[firsts[scale.plus(a, b)] for b in worths] for a in worths]
    products = [[firsts[scale.times(a, b)] for b in worths] for a in worths]
    return Scale(worths, sums, products, firsts[scale.nought], firsts[scale.one])


def to_quotient(scale, blocks):
    """The map that leads each worth to the first worth of its block."""
    firsts = _firsts(scale, _checked_marks(scale, blocks))
    return ScaleMap(scale, quotient(scale, blocks), [firsts[worth] for worth in scale.worths()])


def _checked_marks(scale, blocks):
    """The marks of the blocks, with the errors of check_linking."""
    if not is_list(blocks) or not all([is_list(block) for block in blocks]):
        raise BadBlocks()
    for block in blocks:
        for worth in block:
            need_worth(scale, worth)
    marks = _marks_of(blocks)
    sizes = [len(block) for block in blocks]
    # As many entries as worths, and as many unlike ones: so each worth stands just once.
    if 0 in sizes or sum(sizes) != len(scale) or len(marks) != len(scale):
        raise BadBlocks()
    unlinked = _first_unlinked(scale, marks)
    if unlinked is not None:
        raise NotLinked(unlinked[0], unlinked[1])
    return marks


def _marks_of(blocks):
    """The marks of blocks: each worth is marked by the number of its block."""
    return {worth: number for number, block in enumerate(blocks) for worth in block}


def _first_unlinked(scale, marks):
    """The part and members of the first sum or product that does not keep the blocks, or None."""
    worths = scale.worths()
    pairs = [(a, b) for a in worths for b in worths if a != b and marks[a] == marks[b]]
    for a, b in pairs:
        for c in worths:
            if marks[scale.plus(a, c)] != marks[scale.plus(b, c)]:
                return ("sum", (a, b, c))
    for a, b in pairs:
        for c in worths:
            if marks[scale.times(a, c)] != marks[scale.times(b, c)]:
                return ("product", (a, b, c))
    return None


def _in_form(scale, marks):
    """The blocks in the one form."""
    blocks = {}
    for worth in scale.worths():
        blocks.setdefault(marks[worth], []).append(worth)
    return list(blocks.values())


def _firsts(scale, marks):
    """A dict from each worth to the first worth of its block."""
    return {worth: block[0] for block in _in_form(scale, marks) for worth in block}


def _with_one_mark(marks, mark, other):
    """The marks in which the blocks of two marks have become one."""
    return {worth: mark if marks[worth] == other else marks[worth] for worth in marks}


def _followers(scale, a, b):
    """The pairs that must stand together if a and b do."""
    sums = [(scale.plus(a, c), scale.plus(b, c)) for c in scale.worths()]
    products = [(scale.times(a, c), scale.times(b, c)) for c in scale.worths()]
    return sums + products


def _partings(many):
    """All ways to part so many worths: rows that tell for each the place of the first one of its block."""
    rows = [()]
    for place in range(many):
        rows = [row + (first,) for row in rows for first in range(place + 1) if first == place or row[first] == first]
    return rows


def _has_coarser(unlike, blocks, marks):
    """Whether another one of the linkings is coarser than these blocks."""
    for others, other_marks in unlike:
        if other_marks != marks and all([_stand_together(other_marks, block) for block in blocks]):
            return True
    return False


def _stand_together(marks, worths):
    return all([marks[worth] == marks[worths[0]] for worth in worths])

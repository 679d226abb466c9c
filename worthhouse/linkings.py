"""Linkings: worths parted into blocks that sums and products keep; and quotients by them.

Inside this file a linking is held as marks, a dict from each worth to what marks its
block (two worths stand in one block if they have the same mark), or as a row, a tuple
that has for each worth, in order, the place of the first worth of its block.
"""

from worthhouse.errors import BadBlocks, NotLinked, TooMany
from worthhouse.scalemaps import ScaleMap
from worthhouse.scales import Scale, need_worth
from worthhouse.words import is_list

MOST_WORTHS = 8


def check_linking(scale, blocks):
    """Returns None if the blocks are a linking of the scale (point S1.9)."""
    _checked_marks(scale, blocks)


def least_linking(scale, pairs):
    """The least linking in which the worths of each pair stand together."""
    for pair in pairs:
        for worth in pair:
            need_worth(scale, worth)
    places = _places_of(scale)
    return _blocks_of(scale, _least_row(_folds_of(scale), [(places[a], places[b]) for a, b in pairs]))


def met(scale, first, second):
    """The linking in which worths stand together if they do so in both."""
    marks = _checked_marks(scale, first)
    others = _checked_marks(scale, second)
    return _in_form(scale, {worth: (marks[worth], others[worth]) for worth in scale.worths()})


def joined_linking(scale, first, second):
    """The least linking in which worths stand together if they do so in one of the two."""
    check_linking(scale, first)
    check_linking(scale, second)
    return least_linking(scale, [(block[0], worth) for block in [*first, *second] for worth in block])


def kernel(m):
    """The linking of a map's source in which worths with the same image stand together."""
    return _in_form(m.source, dict(zip(m.source.worths(), m.images())))


def all_linkings(scale):
    """The list of all linkings in their one form, those with more blocks first (point S1.11)."""
    if len(scale) > MOST_WORTHS:
        raise TooMany()
    return [_blocks_of(scale, row) for row in _all_rows(scale)]


def parting(scale, a, b):
    """The list of the coarsest linkings in which a and b do not stand together."""
    if len(scale) > MOST_WORTHS:
        raise TooMany()
    need_worth(scale, a)
    need_worth(scale, b)
    places = _places_of(scale)
    one, other = places[a], places[b]
    coarsest = []
    # A coarser linking has fewer blocks, so it comes first in this direction.
    for row in reversed(_all_rows(scale)):
        if row[one] != row[other] and not any([_lies_in(row, coarser) for coarser in coarsest]):
            coarsest.append(row)
    return [_blocks_of(scale, row) for row in reversed(coarsest)]


def quotient(scale, blocks):
    """The scale of the first worths of the blocks (point S1.12)."""
    firsts = _firsts(scale, _checked_marks(scale, blocks))
    worths = [worth for worth in scale.worths() if firsts[worth] == worth]
    sums = [[firsts[scale.plus(a, b)] for b in worths] for a in worths]
    products = [[firsts[scale.times(a, b)] for b in worths] for a in worths]
    return Scale(worths, sums, products, firsts[scale.nought], firsts[scale.one])


def to_quotient(scale, blocks):
    """The map that leads each worth to the first worth of its block."""
    firsts = _firsts(scale, _checked_marks(scale, blocks))
    return ScaleMap(scale, quotient(scale, blocks), [firsts[worth] for worth in scale.worths()])


def _checked_marks(scale, blocks):
    """The marks of the blocks, with the errors of check_linking."""
    if not is_list(blocks) or not all([is_list(block) for block in blocks]):
        raise BadBlocks()
    for block in blocks:
        for worth in block:
            need_worth(scale, worth)
    marks = _marks_of(blocks)
    sizes = [len(block) for block in blocks]
    # As many entries as worths, and as many unlike ones: so each worth stands just once.
    if 0 in sizes or sum(sizes) != len(scale) or len(marks) != len(scale):
        raise BadBlocks()
    unlinked = _first_unlinked(scale, marks)
    if unlinked is not None:
        raise NotLinked(unlinked[0], unlinked[1])
    return marks


def _marks_of(blocks):
    """The marks of blocks: each worth is marked by the number of its block."""
    return {worth: number for number, block in enumerate(blocks) for worth in block}


def _first_unlinked(scale, marks):
    """The part and members of the first sum or product that does not keep the blocks, or None."""
    worths = scale.worths()
    pairs = [(a, b) for a in worths for b in worths if a != b and marks[a] == marks[b]]
    for a, b in pairs:
        for c in worths:
            if marks[scale.plus(a, c)] != marks[scale.plus(b, c)]:
                return ("sum", (a, b, c))
    for a, b in pairs:
        for c in worths:
            if marks[scale.times(a, c)] != marks[scale.times(b, c)]:
                return ("product", (a, b, c))
    return None


def _in_form(scale, marks):
    """The blocks in the one form."""
    blocks = {}
    for worth in scale.worths():
        blocks.setdefault(marks[worth], []).append(worth)
    return list(blocks.values())


def _firsts(scale, marks):
    """A dict from each worth to the first worth of its block."""
    return {worth: block[0] for block in _in_form(scale, marks) for worth in block}


def _places_of(scale):
    """A dict from each worth to its place in the scale's order."""
    return {worth: place for place, worth in enumerate(scale.worths())}


def _blocks_of(scale, row):
    """The blocks in the one form."""
    return _in_form(scale, dict(zip(scale.worths(), row)))


def _folds_of(scale):
    """For each worth, by its place, the places of its sums with all worths and of its products with all."""
    worths = scale.worths()
    places = _places_of(scale)
    return [
        [places[scale.plus(a, c)] for c in worths] + [places[scale.times(a, c)] for c in worths] for a in worths
    ]


def _least_row(folds, pairs):
    """The row of the least linking in which the worths at the two places of each pair stand together."""
    row = list(range(len(folds)))
    waiting = list(pairs)
    while waiting:
        a, b = waiting.pop()
        if row[a] != row[b]:
            row = _with_one_block(row, row[a], row[b])
            waiting.extend(list(zip(folds[a], folds[b])))
    return tuple(row)


def _with_one_block(row, first, second):
    """The row in which two blocks, told by the places of their first worths, have become one."""
    least = min(first, second)
    gone = max(first, second)
    return [least if place == gone else place for place in row]


def _all_rows(scale):
    """The rows of all linkings, in the order of point S1.11.

    Each linking joins linkings that are the least ones for a pair. Of these, those with
    more blocks are taken first, so one that joins earlier ones has been found by then.
    """
    folds = _folds_of(scale)
    size = len(folds)
    found = {tuple(range(size)): True}
    for least in _ordered_rows([_least_row(folds, [(a, b)]) for b in range(size) for a in range(b)]):
        if least not in found:
            further = [_joined_row(row, least) for row in found]
            found.update({row: True for row in further})
    return _ordered_rows(list(found))


def _ordered_rows(rows):
    """The rows, those with more blocks first, of as many blocks by what is written down."""
    return [row for _, row in sorted([(-_many_blocks(row), row) for row in rows])]


def _many_blocks(row):
    return len([place for place, first in enumerate(row) if first == place])


def _joined_row(first, second):
    """The row of the least linking whose blocks have those of both within them; sums and products keep it, too."""
    row = list(first)
    for place, other in enumerate(second):
        if row[place] != row[other]:
            row = _with_one_block(row, row[place], row[other])
    return tuple(row)


def _lies_in(row, coarser):
    """Whether each block of the first row lies within a block of the second one."""
    return all([coarser[place] == coarser[first] for place, first in enumerate(row)])

"""Scales of worths: told by hand, by families, by pairs; and what makes one lawful."""

from worthhouse.errors import BadScale, UnknownWorth
from worthhouse.words import is_known, is_list, is_number, is_run, ways

MOST_TOLD = 8
MOST_PAIRED = 12


class Scale:
    """Finitely many worths with a sum, a product, nought and one (point S1.4)."""

    def __init__(self, worths, sums, products, nought, one):
        self._worths = tuple(worths)
        self._sums = _by_worths(worths, sums)
        self._products = _by_worths(worths, products)
        self.nought = nought
        self.one = one

    def worths(self):
        """The list of the worths, in order."""
        return list(self._worths)

    def plus(self, a, b):
        """The sum of two worths."""
        self._need_both(a, b)
        return self._sums[a][b]

    def times(self, a, b):
        """The product of two worths."""
        self._need_both(a, b)
        return self._products[a][b]

    def total(self, row):
        """The sum of the worths of a list, from the first one on; nought if it is empty."""
        if len(row) == 0:
            return self.nought
        need_worth(self, row[0])
        worth = row[0]
        for further in row[1:]:
            worth = self.plus(worth, further)
        return worth

    def sum_rows(self):
        """A dict from the worths to dicts from the worths to the sums of both; who asks for it changes nothing."""
        return self._sums

    def product_rows(self):
        """A dict from the worths to dicts from the worths to the products of both; who asks for it changes nothing."""
        return self._products

    def _need_both(self, a, b):
        # Sums and products are asked for most of all, so the usual case is one short look.
        if not isinstance(a, str) or not isinstance(b, str) or a not in self._sums or b not in self._sums:
            raise UnknownWorth(b if a in self else a)

    def __contains__(self, worth):
        return is_known(self._sums, worth)

    def __len__(self):
        return len(self._worths)

    def __eq__(self, other):
        if not isinstance(other, Scale):
            return False
        return (
            self._worths == other._worths
            and self._sums == other._sums
            and self._products == other._products
            and self.nought == other.nought
            and self.one == other.one
        )


class TableScale(Scale):
    """A scale that is told by its tables (point S1.1)."""

    def __init__(self, worths, sums, products, *, nought, one):
        if not _are_worths(worths):
            raise BadScale()
        if not _is_square(worths, sums) or not _is_square(worths, products):
            raise BadScale()
        if nought not in worths or one not in worths:
            raise BadScale()
        Scale.__init__(self, worths, sums, products, nought, one)


class CountScale(Scale):
    """Counts that stop at top."""

    def __init__(self, top):
        _need_size(top, 1, 7)
        worths = _numbers(top)
        Scale.__init__(
            self, worths, _folded(worths, _count_sum, top), _folded(worths, _count_product, top), "0", "1"
        )


class TurnScale(Scale):
    """Remainders by size."""

    def __init__(self, size):
        _need_size(size, 2, 8)
        worths = _numbers(size - 1)
        Scale.__init__(
            self, worths, _folded(worths, _turn_sum, size), _folded(worths, _turn_product, size), "0", "1"
        )


class CostScale(Scale):
    """Costs up to top, the lesser one wins."""

    def __init__(self, top):
        _need_size(top, 0, 6)
        worths = _numbers(top) + ["none"]
        Scale.__init__(
            self, worths, _folded(worths, _cost_sum, top), _folded(worths, _cost_product, top), "none", "0"
        )


class LevelScale(Scale):
    """Levels up to top: the greater one for sums, the lesser one for products."""

    def __init__(self, top):
        _need_size(top, 1, 7)
        worths = _numbers(top)
        Scale.__init__(
            self, worths, _folded(worths, _level_sum, top), _folded(worths, _level_product, top), "0", str(top)
        )


class FewScale(Scale):
    """The least numbers up to top: costs in another order."""

    def __init__(self, top):
        _need_size(top, 0, 6)
        worths = ["none"] + _numbers(top)
        Scale.__init__(
            self, worths, _folded(worths, _cost_sum, top), _folded(worths, _cost_product, top), "none", "0"
        )


class MostScale(Scale):
    """The greatest numbers up to top, and many."""

    def __init__(self, top):
        _need_size(top, 0, 5)
        worths = ["none"] + _numbers(top) + ["many"]
        Scale.__init__(
            self, worths, _folded(worths, _most_sum, top), _folded(worths, _most_product, top), "none", "0"
        )


class PairScale(Scale):
    """The worths of two scales side by side (point S1.3)."""

    def __init__(self, left, right):
        if len(left) * len(right) > MOST_PAIRED:
            raise BadScale()
        self.left = left
        self.right = right
        pairs = ways([left.worths(), right.worths()])
        sums = [[_beside(left.plus(a, c), right.plus(b, d)) for c, d in pairs] for a, b in pairs]
        products = [[_beside(left.times(a, c), right.times(b, d)) for c, d in pairs] for a, b in pairs]
        worths = [_beside(a, b) for a, b in pairs]
        Scale.__init__(
            self, worths, sums, products, _beside(left.nought, right.nought), _beside(left.one, right.one)
        )


def need_worth(scale, worth):
    """Raises UnknownWorth unless the value is a worth of the scale."""
    if worth not in scale:
        raise UnknownWorth(worth)


def first_fault(scale):
    """None for a lawful scale, else the first word and worths for which it fails (point S1.5)."""
    for word, many, holds in CLAIMS:
        for members in ways([scale.worths()] * many):
            if not holds(scale, members):
                return (word, members)
    return None


def _by_worths(worths, rows):
    """The entries of a square of rows, in dicts by the worths of row and column."""
    return {a: dict(zip(worths, row)) for a, row in zip(worths, rows)}


def _are_worths(worths):
    """Whether these can be the worths of a scale that is told by hand."""
    if not is_list(worths) or not 1 <= len(worths) <= MOST_TOLD:
        return False
    if not all([is_run(worth) for worth in worths]):
        return False
    return len(set(worths)) == len(worths)


def _is_square(worths, rows):
    """Whether there is one list for each worth, with one worth in it for each worth."""
    if not is_list(rows) or len(rows) != len(worths):
        return False
    return all([_is_entry_row(worths, row) for row in rows])


def _is_entry_row(worths, row):
    if not is_list(row) or len(row) != len(worths):
        return False
    return all([entry in worths for entry in row])


def _need_size(size, least, most):
    if not is_number(size) or not least <= size <= most:
        raise BadScale()


def _numbers(top):
    """The worths "0" to top."""
    return [str(number) for number in range(top + 1)]


def _folded(worths, fold, top):
    """The square of what fold gives for each two worths."""
    return [[fold(top, a, b) for b in worths] for a in worths]


def _beside(a, b):
    return a + "/" + b


def _count_sum(top, a, b):
    return str(min(int(a) + int(b), top))


def _count_product(top, a, b):
    return str(min(int(a) * int(b), top))


def _turn_sum(size, a, b):
    return str((int(a) + int(b)) % size)


def _turn_product(size, a, b):
    return str((int(a) * int(b)) % size)


def _cost_sum(top, a, b):
    if "none" in (a, b):
        return b if a == "none" else a
    return str(min(int(a), int(b)))


def _cost_product(top, a, b):
    if "none" in (a, b):
        return "none"
    return str(min(int(a) + int(b), top))


def _level_sum(top, a, b):
    return str(max(int(a), int(b)))


def _level_product(top, a, b):
    return str(min(int(a), int(b)))


def _most_sum(top, a, b):
    if "many" in (a, b):
        return "many"
    if "none" in (a, b):
        return b if a == "none" else a
    return str(max(int(a), int(b)))


def _most_product(top, a, b):
    if "none" in (a, b):
        return "none"
    if "many" in (a, b) or int(a) + int(b) > top:
        return "many"
    return str(int(a) + int(b))


def _is_sum_turned(scale, members):
    a, b = members
    return scale.plus(a, b) == scale.plus(b, a)


def _is_sum_joined(scale, members):
    a, b, c = members
    return scale.plus(scale.plus(a, b), c) == scale.plus(a, scale.plus(b, c))


def _is_nought_right(scale, members):
    return scale.plus(members[0], scale.nought) == members[0]


def _is_product_turned(scale, members):
    a, b = members
    return scale.times(a, b) == scale.times(b, a)


def _is_product_joined(scale, members):
    a, b, c = members
    return scale.times(scale.times(a, b), c) == scale.times(a, scale.times(b, c))


def _is_one_right(scale, members):
    return scale.times(members[0], scale.one) == members[0]


def _is_spread(scale, members):
    a, b, c = members
    return scale.times(a, scale.plus(b, c)) == scale.plus(scale.times(a, b), scale.times(a, c))


def _is_gone(scale, members):
    return scale.times(members[0], scale.nought) == scale.nought


CLAIMS = (
    ("sum turned", 2, _is_sum_turned),
    ("sum joined", 3, _is_sum_joined),
    ("nought", 1, _is_nought_right),
    ("product turned", 2, _is_product_turned),
    ("product joined", 3, _is_product_joined),
    ("one", 1, _is_one_right),
    ("spread", 3, _is_spread),
    ("gone", 1, _is_gone),
)

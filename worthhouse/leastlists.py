"""Least lists of numbers that are enough for something, found without trying all lists.

holds is a function of a mask, a number whose bits tell which numbers are in a list. What
holds for a list must hold for each longer one that has its numbers, too.
"""


def least_lists(many, holds):
    """The ascending tuples of numbers below many that are enough, and no longer are if any one is left out.

    Shorter ones come first, of equally long ones the one whose first unlike number is less.
    """
    if not holds((1 << many) - 1):
        return []
    found = []
    enough = []
    barren = []
    for numbers in _by_length(many):
        mask = mask_of(numbers)
        if any([mask & least == least for least in enough]) or any([mask | most == most for most in barren]):
            continue
        if holds(mask):
            enough.append(mask)
            found.append(numbers)
        else:
            barren.append(_widened(many, mask, holds))
    return found


def least_of(numbers, holds):
    """A list, of some of these numbers, that is enough, and no longer is if any one is left out; all are enough."""
    left = list(numbers)
    for number in numbers:
        fewer = [other for other in left if other != number]
        if holds(mask_of(fewer)):
            left = fewer
    return left


def mask_of(numbers):
    """The number whose bits tell these numbers."""
    return sum([1 << number for number in numbers])


def _by_length(many):
    """All ascending tuples of numbers below many, shorter ones first."""
    found = []
    level = [()]
    while level:
        found.extend(level)
        level = [(*numbers, more) for numbers in level for more in range(numbers[-1] + 1 if numbers else 0, many)]
    return found


def _widened(many, mask, holds):
    """A mask that is not enough, either, and would be with any further number."""
    for number in range(many):
        wider = mask | (1 << number)
        if wider != mask and not holds(wider):
            mask = wider
    return mask

"""Which rows serve a fact, asked for many lists of rows of one store (point S8.7)."""

from worthhouse.growing import Growing
from worthhouse.settling import Settling, settled_worths, uses_below
from worthhouse.uses import weighed_uses


class Serving:
    """The uses below a ruled fact over a store, in a steady scale.

    mattering is the list of the rows that can matter, in the store's order: those of uses
    that are not nought. With fewer rows a worth of nought stays nought, so what is left
    out here is nought with any rows. many tells of how many rows all these uses speak.
    """

    def __init__(self, program, store, fact):
        self._nought = program.scale.nought
        self._fact = fact
        below = uses_below(weighed_uses(program, store), fact)
        told = {row: True for use, _ in below for row in use[3]}
        self.many = len(told)
        self._weighed = _giving(program.scale, below, fact)
        spoken = {row: True for use, _ in self._weighed for row in use[3]}
        self.mattering = [row for row in store.rows() if row[:2] in spoken]
        bits = {row[:2]: 1 << number for number, row in enumerate(self.mattering)}
        self._masks = [_mask_by(bits, use[3]) for use, _ in self._weighed]
        self._settling = Settling(program.scale, [(use[2], use[4]) for use, _ in self._weighed])
        self._kept = {}
        self._full = self.worth_with((1 << len(self.mattering)) - 1)

    def worth_with(self, mask):
        """The settled worth of the fact with just the rows whose numbers the bits of the mask tell."""
        if mask not in self._kept:
            weights = [
                weight if own & mask == own else self._nought for own, (_, weight) in zip(self._masks, self._weighed)
            ]
            self._kept[mask] = self._settling.worths_by(weights).get(self._fact, self._nought)
        return self._kept[mask]

    def serves(self, mask):
        """Whether just these rows serve the fact."""
        return self.worth_with(mask) == self._full

    def is_loss(self, mask):
        """Whether these rows are a loss for the fact."""
        return not self.serves(((1 << len(self.mattering)) - 1) ^ mask)

    def rows_of_lines(self, scale):
        """The list of the numbers of some rows that serve the fact: those under lines that show its worth."""
        facts = {use[2]: True for use, _ in self._weighed}
        facts[self._fact] = True
        growing = Growing(scale, facts)
        growing.grow(self._weighed)
        lines = growing.lines()
        told = {use[:2]: (use[2], mask) for (use, _), mask in zip(self._weighed, self._masks)}
        rested_on = {}
        mask = 0
        for number in reversed(range(len(lines))):
            fact, own = told[lines[number][:2]]
            if fact == self._fact or number in rested_on:
                rested_on.update({child: True for child in lines[number][2]})
                mask = mask | own
        return [number for number in range(len(self.mattering)) if mask & (1 << number)]


def _mask_by(bits, facts):
    mask = 0
    for fact in facts:
        mask = mask | bits[fact]
    return mask


def _giving(scale, weighed, fact):
    """The pairs of a use and its worth, from the fact downwards, of the uses that give something with all rows."""
    worths = settled_worths(scale, weighed)
    giving = [
        (use, weight)
        for use, weight in weighed
        if weight != scale.nought and all([below in worths for below in use[4]])
    ]
    return uses_below(giving, fact)

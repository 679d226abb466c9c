"""Lines that are put behind others, each of which climbs, until no further one does (point S4.5).

The sum over all lines that could be put for a fact is what a round gives it. So if no
such line climbs any more, the round's worth is within the fact's sum. And where the sum
over some lines would leave a fact's sum as it is, so does each one of these lines: they
need not be looked at one by one.
"""


class Growing:
    """Lines for facts of a whole set, with what is known of them."""

    def __init__(self, scale, facts):
        self._scale = scale
        self._sums = {fact: scale.nought for fact in facts}
        self._numbers = {fact: [] for fact in facts}
        self._worths = []
        self._lines = {}

    def lines(self):
        """The tuple of the lines, in order."""
        return tuple(self._lines)

    def put(self, fact, line, worth):
        """Puts a right line of this worth, for this fact, behind the others."""
        self._numbers[fact].append(len(self._lines))
        self._sums[fact] = self._scale.plus(self._sums[fact], worth)
        self._worths.append(worth)
        self._lines[line] = True

    def grow(self, uses):
        """Puts lines until no further one climbs; uses are the pairs of use and worth for all facts."""
        waiting = uses
        while waiting:
            grown = {}
            for use, weight in waiting:
                if self._grow_by(use, weight):
                    grown[use[2]] = True
            waiting = [(use, weight) for use, weight in uses if any([fact in grown for fact in use[4]])]

    def climbs(self, fact, worth):
        """Whether a line of this worth changes the sum of the fact."""
        return self._scale.plus(self._sums[fact], worth) != self._sums[fact]

    def _grow_by(self, use, weight):
        """Puts lines of a use while one climbs; whether there was one."""
        found = self._climbing(use, (), weight)
        has_grown = found is not None
        while found is not None:
            line, worth = found
            self.put(use[2], line, worth)
            found = self._climbing(use, (), weight)
        return has_grown

    def _climbing(self, use, children, worth):
        """A new line of the use that climbs, and its worth, or None; the first children are chosen, with this worth."""
        label, things, head, _, ruled = use
        left = ruled[len(children):]
        if not left:
            line = (label, things, children)
            return (line, worth) if line not in self._lines and self.climbs(head, worth) else None
        together = worth
        for fact in left:
            together = self._scale.times(together, self._sums[fact])
        if not self.climbs(head, together):
            return None
        for child in self._numbers[left[0]]:
            further = self._scale.times(worth, self._worths[child])
            found = self._climbing(use, children + (child,), further)
            if found is not None:
                return found
        return None

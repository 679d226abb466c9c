"""Handed-in lines, of any values, gone through in order: which of them can be kept (point S8.5)."""

from worthhouse.uses import row_worths, use_at, weight_of
from worthhouse.words import is_number


class Keeping:
    """The lines that were kept so far, and where the handed-in ones went.

    A line as it can be kept is told by the tuple of itself, with its children numbered
    anew, its fact and its worth. No two kept lines are the same by their new numbers
    unless they are by the handed-in ones.
    """

    def __init__(self, program, store):
        self._program = program
        self._store = store
        self._rows = row_worths(store)
        self._numbers = []
        self._lines = {}
        self._facts = []
        self._worths = []

    def lines(self):
        """The list of the kept lines, in order."""
        return list(self._lines)

    def look(self, line):
        """The next handed-in line, any value, as it can be kept; None if it cannot be."""
        if not isinstance(line, tuple) or len(line) != 3:
            return None
        label, things, children = line
        use = use_at(self._program, self._store, label, things)
        if use is None or not self._are_children(use, children):
            return None
        numbers = tuple([self._numbers[child] for child in children])
        if (label, things, numbers) in self._lines:
            return None
        worth = weight_of(self._program, self._rows, use)
        for number in numbers:
            worth = self._program.scale.times(worth, self._worths[number])
        return ((label, things, numbers), use[2], worth)

    def keep(self, told):
        """Keeps the next handed-in line, as look told it."""
        line, fact, worth = told
        self._numbers.append(len(self._lines))
        self._lines[line] = True
        self._facts.append(fact)
        self._worths.append(worth)

    def leave(self):
        """Leaves the next handed-in line out."""
        self._numbers.append(None)

    def _are_children(self, use, children):
        if not isinstance(children, tuple) or len(children) != len(use[4]):
            return False
        return all([self._is_child(child, fact) for child, fact in zip(children, use[4])])

    def _is_child(self, child, fact):
        """Whether the value is the number of a kept line for the fact."""
        if not is_number(child) or not 0 <= child < len(self._numbers):
            return False
        number = self._numbers[child]
        return number is not None and self._facts[number] == fact

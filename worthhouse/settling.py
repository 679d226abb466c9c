"""Settled worths, found without going through all uses in each round.

In a steady scale it does not matter in which order facts get their sums, as long as
each one gets it again when a worth below it has changed (point S3.7). And where only the
worths of the uses are other ones, what hangs on what needs to be found but once.
"""


class Settling:
    """Uses, each told by its head and its ruled facts, for facts that are a whole set."""

    def __init__(self, scale, uses):
        self._nought = scale.nought
        self._sums = scale.sum_rows()
        self._products = scale.product_rows()
        self._ruled = [ruled for _, ruled in uses]
        self._by_head = {}
        self._above = {}
        for number, (head, ruled) in enumerate(uses):
            self._by_head.setdefault(head, []).append(number)
            for fact in ruled:
                self._above.setdefault(fact, {})[head] = True

    def worths_by(self, weights):
        """A dict of the settled worths that are not nought, by the list of the worths of the uses."""
        table = {}
        waiting = list(self._by_head)
        while waiting:
            changed = {}
            for fact in waiting:
                worth = self._sum_for(fact, weights, table)
                if worth != table.get(fact, self._nought):
                    table[fact] = worth
                    changed.update(self._above.get(fact, {}))
            waiting = list(changed)
        return table

    def _sum_for(self, fact, weights, table):
        """What a round gives the fact."""
        worth = self._nought
        for number in self._by_head.get(fact, []):
            product = weights[number]
            for below in self._ruled[number]:
                product = self._products[product][table.get(below, self._nought)]
            worth = self._sums[worth][product]
        return worth


def settled_worths(scale, weighed):
    """A dict of the settled worths that are not nought, by the pairs of a use and its worth, in a steady scale."""
    settling = Settling(scale, [(use[2], use[4]) for use, _ in weighed])
    return settling.worths_by([worth for _, worth in weighed])


def uses_below(weighed, fact):
    """Those pairs of a use and its worth whose heads are in the least whole set with this fact."""
    by_head = {}
    for pair in weighed:
        by_head.setdefault(pair[0][2], []).append(pair)
    found = []
    known = {fact: True}
    waiting = [fact]
    while waiting:
        pairs = by_head.get(waiting.pop(), [])
        found.extend(pairs)
        further = {below: True for use, _ in pairs for below in use[4] if below not in known}
        known.update(further)
        waiting.extend(list(further))
    return found

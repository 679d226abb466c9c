"""The numbers of uses of rules, counted without going through the uses."""

from worthhouse.ruleforms import names_thing
from worthhouse.ruleruns import relation_of

# A table, that no frame can have, for the things of a kind begins with this sign.
KIND_SIGN = "@"


class Tallying:
    """The whole numbers, as relations ask for worths: they are counted together without a bound."""

    def __init__(self):
        self.nought = 0
        self.one = 1

    def plus(self, a, b):
        """The sum of two numbers."""
        return a + b

    def times(self, a, b):
        """The product of two numbers."""
        return a * b


def rows_tallied(store):
    """A dict from the told tables, and from the signs of the kinds, to dicts from tuples of things to the number 1."""
    tables = {name: {} for name, _ in store.frame.told()}
    for name, things, _ in store.rows():
        tables[name][things] = 1
    for kind in store.frame.kinds():
        tables[KIND_SIGN + kind] = {(thing,): 1 for thing in store.things_of(kind)}
    return tables


class Tallies:
    """The numbers of uses of rules over one store, counted once for rules that differ in what does not matter."""

    def __init__(self, store):
        self._tables = rows_tallied(store)
        self._numbers = {}

    def use_tally(self, frame, rule):
        """The number of uses of a rule over a frame with the kinds and the told tables of the store's."""
        told, free, tests = _canonical(frame, rule)
        key = (told, tests, tuple(free.items()))
        if key not in self._numbers:
            self._numbers[key] = self._counted(told, free, tests)
        return self._numbers[key]

    def _counted(self, told, free, tests):
        asked = {place: True for test in tests for place in test[1:]}
        atoms = [*told] + [(KIND_SIGN + free[place], (place,)) for place in free if place in asked]
        tallying = Tallying()
        _, worths = relation_of(tallying, self._tables, ("", ("", ()), atoms, tests, tallying.one))
        number = worths.get((), 0)
        for place in free:
            if place not in asked:
                number = number * len(self._tables[KIND_SIGN + free[place]])
        return number


def _canonical(frame, rule):
    """The told atoms of a rule, a dict from its other variables to their kinds, and its tests.

    The variables are called by numbers, so that rules which differ in names, in ruled
    atoms or in the order of atoms alone are mostly told in the same way.
    """
    _, _, body, tests, _ = rule
    names = {}
    told = []
    for name, places in sorted([atom for atom in body if not frame.is_ruled(atom[0])]):
        told.append((name, tuple([_numbered(names, place) for place in places])))
    free = {}
    for name, places in body:
        if frame.is_ruled(name):
            for place, kind in zip(places, frame.places(name)):
                if not names_thing(place) and place not in names:
                    free[_numbered(names, place)] = kind
    numbered = [(word, _numbered(names, one), _numbered(names, other)) for word, one, other in tests]
    return tuple(told), free, tuple(sorted(set(numbered)))


def _numbered(names, place):
    """The name of a place by the dict of names, to which a new variable is added."""
    return place if names_thing(place) else names.setdefault(place, f"x{len(names)}")

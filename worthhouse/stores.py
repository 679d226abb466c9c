"""Stores: things of a frame's kinds, and rows of its told tables, each with a worth."""

from worthhouse.errors import BadName, BadRow, BadThing, NoRow, NotTold, TwiceTold, UnknownName, UnknownThing
from worthhouse.words import is_known, is_word, ways


class Store:
    """Things and rows over a frame and a scale (point S2.3)."""

    def __init__(self, frame, scale, things, rows):
        self.frame = frame
        self.scale = scale
        self._kinds = _checked_things(frame, things)
        self._worths = _checked_rows(self, rows)
        self._by_table = None

    def things(self):
        """The list of the pairs of a thing and its kind, in order."""
        return list(self._kinds.items())

    def things_of(self, kind):
        """The list of the things of a kind, in order."""
        if kind not in self.frame.kinds():
            raise UnknownName(kind)
        return [thing for thing in self._kinds if self._kinds[thing] == kind]

    def kind_of(self, thing):
        """The kind of a thing."""
        if not is_known(self._kinds, thing):
            raise UnknownThing(thing)
        return self._kinds[thing]

    def has_thing(self, thing, kind):
        """Whether the store has the thing, any value, with this kind."""
        return is_known(self._kinds, thing) and self._kinds[thing] == kind

    def rows(self):
        """The list of the rows, in the order in which they were told."""
        return [(fact[0], fact[1], worth) for fact, worth in self._worths.items()]

    def things_in(self, name):
        """The list of the tuples of things of the rows of a told table."""
        if self._by_table is None:
            self._by_table = {table: [] for table, _ in self.frame.told()}
            for table, things in self._worths:
                self._by_table[table].append(things)
        return list(self._by_table[name])

    def worth(self, name, things):
        """The worth of the row of a fact."""
        if not self.has(name, things):
            raise NoRow(name, things)
        return self._worths[(name, tuple(things))]

    def has(self, name, things):
        """True if there is a row for the fact, otherwise False."""
        if not self.frame.has_told(name):
            raise NotTold(name)
        return (name, tuple(things)) in self._worths

    def facts_of(self, name):
        """The list of all facts of a table, the first place changing last."""
        kinds = self.frame.places(name)
        return [(name, things) for things in ways([self.things_of(kind) for kind in kinds])]

    def with_rows(self, rows):
        """The store with these rows in place of its own."""
        return Store(self.frame, self.scale, self.things(), rows)

    def __len__(self):
        return len(self._worths)

    def __eq__(self, other):
        if not isinstance(other, Store):
            return False
        return (
            self.frame == other.frame
            and self.scale == other.scale
            and self.things() == other.things()
            and self._worths == other._worths
        )


def is_fact(frame, store, value):
    """Whether the value, any one, is a fact of the frame with things of the store."""
    if not isinstance(value, tuple) or len(value) != 2:
        return False
    name, things = value
    return isinstance(things, tuple) and frame.has_table(name) and _can_stand(store, things, frame.places(name))


def _can_stand(store, things, kinds):
    """Whether these are as many things of the store as kinds, each of its kind."""
    if len(things) != len(kinds):
        return False
    return all([store.has_thing(thing, kind) for thing, kind in zip(things, kinds)])


def _checked_things(frame, things):
    """A dict from the things to their kinds, in order."""
    kinds = {}
    for thing, kind in things:
        if not is_word(thing):
            raise BadName(thing)
        if kind not in frame.kinds() or thing in kinds:
            raise BadThing(thing)
        kinds[thing] = kind
    return kinds


def _checked_rows(store, rows):
    """A dict from the facts of the rows to their worths, in order."""
    frame = store.frame
    worths = {}
    for number, (name, things, worth) in enumerate(rows):
        if not frame.has_told(name) or not _can_stand(store, things, frame.places(name)) or worth not in store.scale:
            raise BadRow(number)
        if (name, tuple(things)) in worths:
            raise TwiceTold(name, things)
        worths[(name, tuple(things))] = worth
    return worths

"""Frames: which kinds there are, and which tables with which kinds at their places."""

from worthhouse.errors import BadFrame, BadName, UnknownName
from worthhouse.words import is_known, is_name, is_word

MOST_PLACES = 3


class Frame:
    """Kinds, told tables and ruled tables (point S2.2)."""

    def __init__(self, kinds, told, ruled):
        _check_names(kinds, told, ruled, is_word)
        _check_tables(kinds, [*told, *ruled], MOST_PLACES)
        self._keep(kinds, told, ruled)

    def _keep(self, kinds, told, ruled):
        self._kinds = tuple(kinds)
        self._told = {name: tuple(places) for name, places in told}
        self._ruled = {name: tuple(places) for name, places in ruled}

    def kinds(self):
        """The list of the kinds."""
        return list(self._kinds)

    def told(self):
        """The list of the told tables, each with the tuple of its kinds."""
        return list(self._told.items())

    def ruled(self):
        """The list of the ruled tables, each with the tuple of its kinds."""
        return list(self._ruled.items())

    def places(self, name):
        """The tuple of the kinds of a table's places."""
        if self.is_ruled(name):
            return self._ruled[name]
        return self._told[name]

    def is_ruled(self, name):
        """True if the table is ruled, False if it is told."""
        # Asked for most of all, so the usual cases are short looks.
        if is_known(self._ruled, name):
            return True
        if not is_known(self._told, name):
            raise UnknownName(name)
        return False

    def has_table(self, name):
        """Whether the name, any value, is that of a table."""
        return self.has_told(name) or self.has_ruled(name)

    def has_told(self, name):
        """Whether the name, any value, is that of a told table."""
        return is_known(self._told, name)

    def has_ruled(self, name):
        """Whether the name, any value, is that of a ruled table."""
        return is_known(self._ruled, name)

    def __eq__(self, other):
        if not isinstance(other, Frame):
            return False
        return self._kinds == other._kinds and self.told() == other.told() and self.ruled() == other.ruled()


def made_frame(kinds, told, ruled):
    """The frame whose tables may have made names, and any number of places."""
    _check_names(kinds, told, ruled, is_name)
    _check_tables(kinds, [*told, *ruled], None)
    frame = Frame([], [], [])
    frame._keep(kinds, told, ruled)
    return frame


def _check_names(kinds, told, ruled, is_table_name):
    for kind in kinds:
        if not is_word(kind):
            raise BadName(kind)
    for name, _ in [*told, *ruled]:
        if not is_table_name(name):
            raise BadName(name)


def _check_tables(kinds, tables, most):
    """Looks for kinds and tables that stand twice, and for places that no table may have."""
    earlier_kinds = set()
    for kind in kinds:
        if kind in earlier_kinds:
            raise BadFrame(kind)
        earlier_kinds.add(kind)
    earlier = set()
    for name, places in tables:
        too_many = most is not None and len(places) > most
        if name in earlier or too_many or not all([kind in earlier_kinds for kind in places]):
            raise BadFrame(name)
        earlier.add(name)

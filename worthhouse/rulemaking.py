"""The rules to which a question is compiled: ways of terms, and the tables that are made (points S6.1 and S6.2)."""

from worthhouse.questionforms import AHEAD, BEHIND, going, names_table, parts_of


class Making:
    """The going through a checked question that finds its made tables and the ways of its terms.

    A made table is a tuple (name, place, columns): the place of the term for which it
    stands, and the tuple of that term's columns at the table's places.
    """

    def __init__(self, checking, scale, question):
        self._checking = checking
        self._scale = scale
        self._steps = going(question[1])
        self._many = _numbers_of_ways(self._steps)
        self._tables = []
        self._table_names = {}
        self._called = {}
        self._words = {}
        self._make(question[0], ())
        self._make_others(_written_variables(self._steps))
        self._ways = {}
        for moment, place, term in self._steps:
            if moment == BEHIND:
                self._ways[place] = self._ways_of(place, term)

    def tables(self):
        """The list of the made tables, in the order in which they are met."""
        return list(self._tables)

    def kinds_of_table(self, table):
        """The tuple of the kinds at the places of a made table."""
        _, place, columns = table
        kinds = self._checking.columns_at_place(place)
        return tuple([kinds[variable] for variable in columns])

    def rules(self):
        """The list of the rules, table by table, way by way."""
        found = []
        for name, place, columns in self._tables:
            for atoms, tests, worth in self._ways[place]:
                found.append((f"w.{len(found)}", (name, columns), atoms, tests, worth))
        return found

    def _make(self, columns, place):
        """Makes the next table, for the term at this place."""
        name = f"q.{len(self._tables)}"
        self._tables.append((name, place, tuple(columns)))
        return name

    def _make_others(self, taken):
        """Makes the tables and the words for overs; taken are the variables that are written."""
        parts_of_withs = {}
        number = 0
        for moment, place, term in self._steps:
            if moment != AHEAD:
                continue
            if place in parts_of_withs and self._many[place] > 1:
                self._table_names[place] = self._make(self._checking.columns_at_place(place), place)
            if names_table(term):
                self._called[term[1]] = self._make([variable for variable, _ in term[2]], place + (0,))
            if term[0] == "with":
                parts_of_withs.update({place + (0,): True, place + (1,): True})
            if term[0] == "over":
                while f"v{number}" in taken:
                    number += 1
                self._words[place] = f"v{number}"
                number += 1

    def _ways_of(self, place, term):
        word = term[0]
        if word == "table":
            return [((term[1:],), (), self._scale.one)]
        if word == "call":
            return [(((self._called[term[1]], term[2]),), (), self._scale.one)]
        if word == "worth":
            return [((), (), term[1])]
        if word == "with":
            return [self._way_of_with(place)]
        first = self._ways[place + (0,)]
        if word == "over":
            return [_renamed_way(way, term[1], self._words[place]) for way in first]
        if word == "where":
            return [(atoms, (*tests, term[1]), worth) for atoms, tests, worth in first]
        second = self._ways[place + (1,)]
        return first + second if word == "both" else second

    def _way_of_with(self, place):
        atoms, tests, worth = self._way_of_part(place + (0,))
        further_atoms, further_tests, further_worth = self._way_of_part(place + (1,))
        return (atoms + further_atoms, tests + further_tests, self._scale.times(worth, further_worth))

    def _way_of_part(self, place):
        """The one way of a part of a with: that of the term, or that of the table made for it."""
        if place not in self._table_names:
            return self._ways[place][0]
        columns = tuple(self._checking.columns_at_place(place))
        return (((self._table_names[place], columns),), (), self._scale.one)


def _numbers_of_ways(steps):
    """A dict from the places to the numbers of the ways of the terms there."""
    many = {}
    for moment, place, term in steps:
        if moment == BEHIND:
            below = [many[place + (step,)] for step in range(len(parts_of(term)))]
            if term[0] == "both":
                many[place] = below[0] + below[1]
            elif term[0] == "with" or not below:
                many[place] = 1
            else:
                # Over and where have one part; of a let and a least it is t that counts.
                many[place] = below[-1]
    return many


def _written_variables(steps):
    """A dict of the variables that are written in places of tables and calls, in overs, and in columns."""
    found = {}
    for moment, _, term in steps:
        if moment == AHEAD:
            if term[0] in ("table", "call"):
                found.update({place: True for place in term[2]})
            if term[0] == "over":
                found[term[1]] = True
            if names_table(term):
                found.update({variable: True for variable, _ in term[2]})
    return found


def _renamed_way(way, variable, word):
    """The way in which a variable is called by another word."""
    atoms, tests, worth = way
    return (
        tuple([(name, _renamed_places(places, variable, word)) for name, places in atoms]),
        tuple([(test[0], *_renamed_places(test[1:], variable, word)) for test in tests]),
        worth,
    )


def _renamed_places(places, variable, word):
    return tuple([word if place == variable else place for place in places])

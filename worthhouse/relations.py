"""Worths for the fillings of some columns, joined and summed up.

A relation is a pair (columns, worths): a tuple of variables in ascending order, and a
dict from fillings, tuples of things, to worths. A filling that the dict does not have
has nought; the scale is lawful, so nought adds nothing and multiplied stays nought.
"""

from worthhouse.ruleforms import names_thing


def told_worths(store):
    """A dict from the told tables to dicts from the things of their rows to worths."""
    worths = {name: {} for name, _ in store.frame.told()}
    for name, things, worth in store.rows():
        if worth != store.scale.nought:
            worths[name][things] = worth
    return worths


def alone(scale, worth):
    """The relation without columns that has this worth."""
    return ((), {(): worth} if worth != scale.nought else {})


def at_places(worths, places):
    """The relation of a table, a dict from tuples of things to worths, with variables and things at its places."""
    columns = tuple(sorted(set([place for place in places if not names_thing(place)])))
    picks = [places.index(column) for column in columns]
    found = {}
    for things, worth in worths.items():
        picked = tuple([things[pick] for pick in picks])
        if _fits(places, things, dict(zip(columns, picked))):
            found[picked] = worth
    return (columns, found)


def by_columns(relation, variables):
    """The worths of a relation, a dict by fillings of its columns in another order."""
    columns, worths = relation
    picks = [columns.index(variable) for variable in variables]
    return {tuple([filling[pick] for pick in picks]): worth for filling, worth in worths.items()}


def summed(scale, first, second):
    """The sum of two relations with the same columns."""
    columns, worths = first
    return (columns, _added(scale, worths, list(second[1].items())))


def multiplied(scale, first, second):
    """The product of two relations, over the columns of both."""
    columns = tuple(sorted(set(first[0] + second[0])))
    picks = [(first[0] + second[0]).index(column) for column in columns]
    shared = [column for column in first[0] if column in second[0]]
    partners = _grouped(second, shared)
    keys = [first[0].index(column) for column in shared]
    found = {}
    for filling, worth in first[1].items():
        for other, other_worth in partners.get(tuple([filling[key] for key in keys]), []):
            product = scale.times(worth, other_worth)
            if product != scale.nought:
                both = filling + other
                found[tuple([both[pick] for pick in picks])] = product
    return (columns, found)


def summed_out(scale, relation, variable):
    """The relation without a column: the sums for all things in its place."""
    columns, worths = relation
    at = columns.index(variable)
    pairs = [(filling[:at] + filling[at + 1:], worth) for filling, worth in worths.items()]
    return (columns[:at] + columns[at + 1:], _added(scale, {}, pairs))


def where_holds(relation, test):
    """The relation with nought wherever the test, of its columns, does not hold."""
    columns, worths = relation
    word, one, other = test
    found = {}
    for filling, worth in worths.items():
        things = dict(zip(columns, filling))
        if (_at(one, things) == _at(other, things)) == (word == "same"):
            found[filling] = worth
    return (columns, found)


def _at(place, things):
    return place[1:] if names_thing(place) else things[place]


def _fits(places, things, taken):
    """Whether a table's things stand where the places ask for them, each variable being taken once."""
    return all([_at(place, taken) == thing for place, thing in zip(places, things)])


def _added(scale, worths, pairs):
    """The dict of worths with those of the pairs of filling and worth added to them."""
    found = {filling: worths[filling] for filling in worths}
    for filling, worth in pairs:
        found[filling] = scale.plus(found[filling], worth) if filling in found else worth
    return {filling: found[filling] for filling in found if found[filling] != scale.nought}


def _grouped(relation, shared):
    """A dict from the things in shared columns to the pairs of filling and worth that have them."""
    columns, worths = relation
    keys = [columns.index(column) for column in shared]
    found = {}
    for filling, worth in worths.items():
        found.setdefault(tuple([filling[key] for key in keys]), []).append((filling, worth))
    return found

"""States put in order, compared and merged (points S9.1 and S9.5).

A spot is ("row", name, things) or ("rule", label): what a state has there is a worth, a
rule or nothing. Spots are in ascending order, those of rows ahead of those of rules.
"""

from worthhouse.errors import Clash
from worthhouse.ordering import ordered_program, ordered_store
from worthhouse.rules import made_program


def in_order(program, store):
    """The state: rules in ascending order of their labels, rows in that of (name, things)."""
    return (ordered_program(program), ordered_store(store))


def changes(elder, newer):
    """The list of the spots, each with what is there before and behind, at which two states are unlike."""
    before = _parts_by_spot(elder)
    after = _parts_by_spot(newer)
    return [
        (*spot, before.get(spot), after.get(spot))
        for spot in _all_spots([before, after])
        if before.get(spot) != after.get(spot)
    ]


def clashes(elder, one, other):
    """The list of the spots at which two states that came of an elder one clash."""
    parts = [_parts_by_spot(state) for state in (elder, one, other)]
    return [spot for spot in _all_spots(parts) if _clash([part.get(spot) for part in parts])]


def merged(elder, one, other):
    """The state that two states make which came of an elder one."""
    spots = clashes(elder, one, other)
    if spots:
        raise Clash(spots)
    before, first, second = [_parts_by_spot(state) for state in (elder, one, other)]
    rules = []
    rows = []
    for spot in _all_spots([first, second]):
        part = second.get(spot) if first.get(spot) == before.get(spot) else first.get(spot)
        if part is not None and spot[0] == "rule":
            rules.append(part)
        elif part is not None:
            rows.append((spot[1], spot[2], part))
    program, store = one
    return (made_program(program.frame, program.scale, rules), store.with_rows(rows))


def _parts_by_spot(state):
    """A dict from the spots at which a state has something to what it has there."""
    program, store = state
    found = {("row", name, things): worth for name, things, worth in store.rows()}
    found.update({("rule", rule[0]): rule for rule in program.rules()})
    return found


def _all_spots(parts):
    """The list of the spots of several dicts, each once, in order."""
    # The word "row" stands ahead of "rule", too.
    return sorted(set([spot for part in parts for spot in part]))


def _clash(three):
    before, first, second = three
    return first != before and second != before and first != second

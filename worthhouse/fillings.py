"""All fillings of a rule for which the tests hold and the told atoms have rows.

A partial filling is a dict from some variables to things; all partial fillings of a
list are for the same variables. The rows are joined first, the atom with the fewest
new variables ahead of the others, as this keeps the lists short.
"""

from worthhouse.ruleforms import names_thing, test_holds


def fillings_of(program, store, label):
    """The list of the tuples of things of all uses of a rule, by the places of the things."""
    _, _, body, tests, _ = program.rule(label)
    variables = program.variables(label)
    atoms = [atom for atom in body if not program.frame.is_ruled(atom[0])]
    partials, bound, waiting = _with_rows(store, atoms, tests)
    for variable in variables:
        if variable not in bound:
            things = store.things_of(program.kind_at(label, variable))
            partials = [{**partial, variable: thing} for partial in partials for thing in things]
            bound = bound + [variable]
            partials, waiting = _tested(partials, bound, waiting)
    return _in_order(store, variables, partials)


def _with_rows(store, atoms, tests):
    """The partial fillings by the rows of told atoms, their variables, and the tests not looked at yet."""
    partials, waiting = _tested([{}], [], tests)
    bound = []
    left = list(atoms)
    while left:
        many_new = [len(_new_variables(atom, bound)) for atom in left]
        atom = left.pop(many_new.index(min(many_new)))
        partials = _joined_rows(partials, bound, atom, _rows_for(store, atom))
        bound = bound + _new_variables(atom, bound)
        partials, waiting = _tested(partials, bound, waiting)
    return partials, bound, waiting


def _new_variables(atom, bound):
    """The variables of an atom that are not among the bound ones, each once."""
    found = []
    for place in atom[1]:
        if not names_thing(place) and place not in bound and place not in found:
            found.append(place)
    return found


def _rows_for(store, atom):
    """The partial fillings by which the atom alone becomes the fact of a row."""
    found = []
    for name, things, _ in store.rows():
        if name == atom[0]:
            taken = _by_row(atom, things)
            if taken is not None:
                found.append(taken)
    return found


def _by_row(atom, things):
    """The partial filling that makes these things of the atom's places, or None."""
    taken = {}
    for place, thing in zip(atom[1], things):
        if names_thing(place):
            if place[1:] != thing:
                return None
        elif taken.setdefault(place, thing) != thing:
            return None
    return taken


def _joined_rows(partials, bound, atom, rows):
    """The partial fillings that come of one of the partials and one of the rows that agree."""
    shared = [variable for variable in bound if variable in atom[1]]
    table = {}
    for taken in rows:
        table.setdefault(tuple([taken[variable] for variable in shared]), []).append(taken)
    found = []
    for partial in partials:
        key = tuple([partial[variable] for variable in shared])
        found.extend([{**partial, **taken} for taken in table.get(key, [])])
    return found


def _tested(partials, bound, tests):
    """The partials that pass the tests whose variables are bound, and the tests that wait still."""
    ready = [test for test in tests if not _waits(test, bound)]
    passed = [partial for partial in partials if all([test_holds(test, partial) for test in ready])]
    return passed, [test for test in tests if _waits(test, bound)]


def _waits(test, bound):
    return any([not names_thing(place) and place not in bound for place in test[1:]])


def _in_order(store, variables, partials):
    """The things of the variables, ordered by the places of the things in the store."""
    names = [thing for thing, _ in store.things()]
    places = {thing: place for place, thing in enumerate(names)}
    rows = sorted([tuple([places[partial[variable]] for variable in variables]) for partial in partials])
    return [tuple([names[place] for place in row]) for row in rows]

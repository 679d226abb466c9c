"""All fillings of a rule for which the tests hold and the told atoms have rows.

Inside this file a thing is told by its place in the store. A partial filling is a tuple
of things for some variables, the bound ones; all partial fillings of a list are for the
same variables, in the same order. The rows are joined first, the atom with the fewest
new variables ahead of the others, as this keeps the lists short.
"""

from worthhouse.ruleforms import names_thing


def fillings_of(program, store, label):
    """The list of the tuples of things of all uses of a rule, by the places of the things."""
    _, _, body, tests, _ = program.rule(label)
    names = [thing for thing, _ in store.things()]
    places = {thing: place for place, thing in enumerate(names)}
    atoms = [atom for atom in body if not program.frame.is_ruled(atom[0])]
    partials, bound, waiting = _with_rows(store, places, atoms, _told_tests(places, tests))
    variables = program.variables(label)
    for variable in variables:
        if variable not in bound:
            things = [(places[thing],) for thing in store.things_of(program.kind_at(label, variable))]
            partials = [partial + thing for partial in partials for thing in things]
            bound.append(variable)
            partials, waiting = _tested(partials, bound, waiting)
    return _in_order(names, [bound.index(variable) for variable in variables], partials)


def _told_tests(places, tests):
    """The tests, each as whether its places are to be the same, and these: a variable, or the number of a thing."""
    return [(word == "same", _told_place(places, one), _told_place(places, other)) for word, one, other in tests]


def _told_place(places, place):
    return places[place[1:]] if names_thing(place) else place


def _with_rows(store, places, atoms, tests):
    """The partial fillings by the rows of told atoms, their variables, and the tests not looked at yet."""
    partials, bound, waiting = [()], [], tests
    left = list(atoms)
    while left:
        many_new = [len(_new_variables(atom, bound)) for atom in left]
        atom = left.pop(many_new.index(min(many_new)))
        rows = [tuple([places[thing] for thing in things]) for things in store.things_in(atom[0])]
        told = [_told_place(places, place) for place in atom[1]]
        partials = _joined_rows(partials, bound, told, rows)
        bound = bound + _new_variables(atom, bound)
        partials, waiting = _tested(partials, bound, waiting)
    return partials, bound, waiting


def _new_variables(atom, bound):
    """The variables of an atom that are not among the bound ones, each once."""
    return [place for place in {place: True for place in atom[1]} if not names_thing(place) and place not in bound]


def _joined_rows(partials, bound, told, rows):
    """The partial fillings that come of partials and rows that agree, each two; told are an atom's places."""
    shared = [place for place in bound if place in told]
    keys = [told.index(place) for place in shared]
    news = [number for number, place in enumerate(told) if _is_new(bound, told, number)]
    table = {}
    for row in rows:
        if all([row[number] == _asked_thing(told, row, place) for number, place in enumerate(told)]):
            table.setdefault(tuple([row[key] for key in keys]), []).append(tuple([row[new] for new in news]))
    picks = [bound.index(place) for place in shared]
    found = []
    for partial in partials:
        found.extend([partial + new for new in table.get(tuple([partial[pick] for pick in picks]), [])])
    return found


def _is_new(bound, told, number):
    """Whether a variable that is not bound stands at this place of an atom first."""
    place = told[number]
    return isinstance(place, str) and place not in bound and told.index(place) == number


def _asked_thing(told, row, place):
    """The thing that a place of an atom asks for: its own, or the one where its variable stands first."""
    return row[told.index(place)] if isinstance(place, str) else place


def _tested(partials, bound, tests):
    """The partials that pass the tests whose variables are bound, and the tests that wait still."""
    waiting = []
    for test in tests:
        is_same, one, other = test
        if not all([place in bound for place in (one, other) if isinstance(place, str)]):
            waiting.append(test)
        elif isinstance(one, str) and isinstance(other, str):
            first, second = bound.index(one), bound.index(other)
            partials = [partial for partial in partials if (partial[first] == partial[second]) == is_same]
        else:
            place, thing = (one, other) if isinstance(one, str) else (other, one)
            at = bound.index(place)
            partials = [partial for partial in partials if (partial[at] == thing) == is_same]
    return partials, waiting


def _in_order(names, picks, partials):
    """The things of the variables, which stand at these places of the partials, by the places of the things."""
    rows = sorted([tuple([partial[pick] for pick in picks]) for partial in partials])
    return [tuple([names[place] for place in row]) for row in rows]

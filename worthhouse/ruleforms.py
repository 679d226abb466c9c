"""The parts of rules: their forms, the kinds at their places, and what a filling makes of them."""

from worthhouse.words import is_word


def names_thing(place):
    """Whether the place, a variable or "@" and a thing, names a thing."""
    return place.startswith("@")


def is_place(value):
    """Whether the value is a variable, or "@" and a word."""
    return is_word(value) or (isinstance(value, str) and names_thing(value) and is_word(value[1:]))


def is_atom(value):
    """Whether the value has the form of an atom, whatever its name."""
    if not isinstance(value, tuple) or len(value) != 2:
        return False
    name, places = value
    return isinstance(name, str) and isinstance(places, tuple) and all([is_place(place) for place in places])


def is_test(value):
    """Whether the value has the form of a test, perhaps of two things."""
    if not isinstance(value, tuple) or len(value) != 3:
        return False
    word, one, other = value
    return word in ("same", "unlike") and is_place(one) and is_place(other)


def is_rule(value):
    """Whether the value has the form of a rule, whatever its label, names and worth are."""
    if not isinstance(value, tuple) or len(value) != 5:
        return False
    label, head, body, tests, worth = value
    if not isinstance(label, str) or not isinstance(worth, str) or not is_atom(head):
        return False
    if not isinstance(body, tuple) or not isinstance(tests, tuple):
        return False
    return all([is_atom(atom) for atom in body]) and all([is_test(test) for test in tests])


def kinds_in_rule(frame, rule, things):
    """The kinds of a rule's places beside earlier things, or None if they cannot be.

    The rule is one by its form; things is a dict from places that name things to their
    kinds. The answer has these, then the places of the rule in the order of point S2.5.
    """
    head, body, tests = rule[1:4]
    if not frame.has_ruled(head[0]) or not all([_has_its_places(frame, atom) for atom in (head, *body)]):
        return None
    inner = [place for atom in body for place in atom[1]]
    bound = [place for place in head[1] if not names_thing(place)]
    if not all([place in inner for place in bound]):
        return None
    kinds = _with_kinds(things, [pair for atom in (head, *body) for pair in zip(atom[1], frame.places(atom[0]))])
    if kinds is None:
        return None
    return _with_tests(kinds, inner, tests)


def thing_at(place, filling):
    """The thing at a place, by a dict from the variables to things."""
    return place[1:] if names_thing(place) else filling[place]


def fact_at(atom, filling):
    """The fact that the atom becomes."""
    return (atom[0], tuple([thing_at(place, filling) for place in atom[1]]))


def test_holds(test, filling):
    """Whether the test holds for these things."""
    is_same = thing_at(test[1], filling) == thing_at(test[2], filling)
    return is_same if test[0] == "same" else not is_same


def _has_its_places(frame, atom):
    return frame.has_table(atom[0]) and len(frame.places(atom[0])) == len(atom[1])


def _with_tests(kinds, inner, tests):
    """The kinds with those that the tests tell, or None; inner are the places of the body."""
    for _, one, other in tests:
        variables = [place for place in (one, other) if not names_thing(place)]
        if not variables or not all([place in inner for place in variables]):
            return None
        kind = kinds[variables[0]]
        kinds = _with_kinds(kinds, [(one, kind), (other, kind)])
        if kinds is None:
            return None
    return kinds


def _with_kinds(kinds, pairs):
    """The kinds with these pairs of place and kind, or None if a place had two kinds."""
    wider = dict(kinds)
    for place, kind in pairs:
        if wider.setdefault(place, kind) != kind:
            return None
    return wider

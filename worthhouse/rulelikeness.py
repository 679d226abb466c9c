"""Whether two rules are the same but for labels, names of variables and the order of their parts."""

from worthhouse.ruleforms import names_thing


def are_alike(rule, other):
    """Whether two rules are the same, but for what does not matter."""
    _, head, body, tests, worth = rule
    _, other_head, other_body, other_tests, other_worth = other
    if worth != other_worth or len(body) != len(other_body):
        return False
    renaming = _matched({}, head, other_head)
    return renaming is not None and _can_be_led(renaming, body, other_body, (tests, other_tests))


def _can_be_led(renaming, atoms, others, both_tests):
    """Whether a wider renaming leads the atoms to the others, in some order, and the tests likewise."""
    if not atoms:
        tests, other_tests = both_tests
        return _turned_tests(renaming, tests) == _turned_tests(None, other_tests)
    for place in range(len(others)):
        # A second atom of the same words would only be tried in vain once more.
        if others[place] in others[:place]:
            continue
        wider = _matched(renaming, atoms[0], others[place])
        left = others[:place] + others[place + 1:]
        if wider is not None and _can_be_led(wider, atoms[1:], left, both_tests):
            return True
    return False


def _matched(renaming, atom, other):
    """The renaming, widened so that it leads the atom to the other one, or None."""
    if atom[0] != other[0]:
        return None
    wider = dict(renaming)
    for place, other_place in zip(atom[1], other[1]):
        if names_thing(place) or names_thing(other_place):
            if place != other_place:
                return None
        elif place not in wider and other_place in list(wider.values()):
            return None
        elif wider.setdefault(place, other_place) != other_place:
            return None
    return wider


def _turned_tests(renaming, tests):
    """The tests by other names (None: by their own), in an order that does not hang on how they stood."""
    return sorted([(word, sorted([_renamed(renaming, one), _renamed(renaming, other)])) for word, one, other in tests])


def _renamed(renaming, place):
    if renaming is None or names_thing(place):
        return place
    return renaming[place]

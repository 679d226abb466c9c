"""What is a turn of a program (point S7.1), and the names and labels that turns give."""

from worthhouse.errors import BadTurn
from worthhouse.ruleforms import names_thing
from worthhouse.words import is_number, is_word

MOST_FOLDED_PLACES = 3


def need_turn(program, turn):
    """Raises BadTurn unless the value, any one, is a turn of the program that can be done."""
    if not _is_turn(program, turn):
        raise BadTurn()


def fold_variables(rule, places):
    """The list of the variables of the named atoms that stand elsewhere in the rule, too, in their order."""
    _, head, body, tests, _ = rule
    elsewhere = {place: True for place in head[1]}
    for number, atom in enumerate(body):
        if number not in places:
            elsewhere.update({place: True for place in atom[1]})
    for test in tests:
        elsewhere.update({place: True for place in test[1:]})
    named = {place: True for number in places for place in body[number][1]}
    return [place for place in named if place in elsewhere and not names_thing(place)]


def new_labels(program, labels):
    """A new label for each of these labels, in order (S7.1)."""
    taken = {label: True for label in program.labels()}
    found = []
    for label in labels:
        found.append(_first_free(label.partition(".")[0], taken))
        taken[found[-1]] = True
    return found


def new_table(frame):
    """The first of the names n.0, n.1 and so on that no table of the frame has."""
    return _first_free("n", {name: True for name, _ in [*frame.told(), *frame.ruled()]})


def _first_free(word, taken):
    number = 0
    while f"{word}.{number}" in taken:
        number += 1
    return f"{word}.{number}"


def _is_turn(program, turn):
    if not isinstance(turn, tuple) or not turn or not isinstance(turn[0], str) or turn[0] not in FORMS:
        return False
    length, can_be = FORMS[turn[0]]
    return len(turn) == length and can_be(program, turn)


def _is_place(value, many):
    return is_number(value) and 0 <= value < many


def _can_unfold(program, turn):
    _, label, at = turn
    if not program.has_rule(label):
        return False
    body = program.rule(label)[2]
    return _is_place(at, len(body)) and program.frame.is_ruled(body[at][0])


def _can_fold(program, turn):
    _, label, places = turn
    if not program.has_rule(label) or not isinstance(places, tuple) or not 1 <= len(places) <= 2:
        return False
    rule = program.rule(label)
    if not all([_is_place(place, len(rule[2])) for place in places]):
        return False
    if len(places) == 2 and places[0] >= places[1]:
        return False
    return len(fold_variables(rule, places)) <= MOST_FOLDED_PLACES


def _can_drop(program, turn):
    names = turn[1]
    if not isinstance(names, tuple) or not all([program.frame.has_ruled(name) for name in names]):
        return False
    return len(set(names)) == len(names)


def _can_order(program, turn):
    _, label, places = turn
    if not program.has_rule(label) or not isinstance(places, tuple):
        return False
    if not all([is_number(place) for place in places]):
        return False
    return sorted(places) == list(range(len(program.rule(label)[2])))


def _can_join(program, turn):
    _, label, other = turn
    if not program.has_rule(label) or not program.has_rule(other) or label == other:
        return False
    return program.rule(label)[1:4] == program.rule(other)[1:4]


def _can_part(program, turn):
    _, label, one, other = turn
    if not program.has_rule(label):
        return False
    variables = program.variables(label)
    if one not in variables or other not in variables or one == other:
        return False
    return program.kind_at(label, one) == program.kind_at(label, other)


def _can_special(program, turn):
    _, name, place, thing = turn
    if not program.frame.has_ruled(name) or not is_word(thing):
        return False
    kinds = program.frame.places(name)
    if not _is_place(place, len(kinds)):
        return False
    return all([kind == kinds[place] for named, kind in program.needed() if named == thing])


FORMS = {
    "unfold": (3, _can_unfold),
    "fold": (3, _can_fold),
    "drop": (2, _can_drop),
    "order": (3, _can_order),
    "join": (3, _can_join),
    "part": (4, _can_part),
    "special": (4, _can_special),
}

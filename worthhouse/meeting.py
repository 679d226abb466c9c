"""How the heads of rules meet an atom that they are to be exchanged for (point S7.2)."""

from worthhouse.ruleforms import names_thing


class Meeting:
    """A rule s whose head has met an atom of the turned rule.

    words has the new words for the variables of s, in their order; leads tells for these
    words and for the variables of the turned rule what they have been exchanged by.
    """

    def __init__(self, label, words, leads, parts):
        self.label = label
        self.words = words
        self.leads = leads
        self.parts = parts


def meetings_of(program, label, at):
    """The list of the meetings that give a rule, rule by rule; parts are those of the new rule behind its label."""
    atom = program.rule(label)[2][at]
    variables = program.variables(label)
    found = []
    for other in program.rules_for(atom[0]):
        words = _new_words(variables, program.variables(other))
        leads = _leads(variables, words, led_atom(program.rule(other)[1], words), atom)
        parts = None if leads is None else _parts_behind(program, (label, at), (other, words), leads)
        if parts is not None:
            found.append(Meeting(other, list(words.values()), leads, parts))
    return found


def led_place(place, leads):
    """What stands for a place behind the exchanges; what they do not know stays."""
    return leads.get(place, place)


def led_atom(atom, leads):
    """The atom with all its places led."""
    return (atom[0], tuple([led_place(place, leads) for place in atom[1]]))


def led_tests(tests, leads):
    """The tuple of the led tests, without those of two things that hold; None if one of two things does not hold."""
    led = []
    for word, one, other in tests:
        first, second = led_place(one, leads), led_place(other, leads)
        if not names_thing(first) or not names_thing(second):
            led.append((word, first, second))
        elif (first == second) != (word == "same"):
            return None
    return tuple(led)


def _new_words(taken, variables):
    """A dict from the variables to the first of the words u0, u1 and so on that are not taken."""
    words = {}
    number = 0
    for variable in variables:
        while f"u{number}" in taken:
            number += 1
        words[variable] = f"u{number}"
        number += 1
    return words


def _leads(variables, words, head, atom):
    """What the variables of both rules are exchanged by when the head meets the atom, None if it cannot."""
    leads = {place: place for place in [*variables, *list(words.values())]}
    order = {variable: number for number, variable in enumerate(variables)}
    for place, other_place in zip(head[1], atom[1]):
        one, other = led_place(place, leads), led_place(other_place, leads)
        if one == other:
            continue
        if names_thing(one) and names_thing(other):
            return None
        gone, stays = _exchange(order, one, other)
        leads = {known: stays if leads[known] == gone else leads[known] for known in leads}
    return leads


def _exchange(order, one, other):
    """The variable that is exchanged, and by what; order tells the places of the turned rule's variables."""
    if names_thing(one):
        return (other, one)
    # A variable that the turned rule does not have is one of the rule s.
    if one not in order or names_thing(other) or order[one] > order[other]:
        return (one, other)
    return (other, one)


def _parts_behind(program, turned_at, met_by, leads):
    """Head, body, tests and worth of the new rule, None if there is none."""
    label, at = turned_at
    other, words = met_by
    _, head, body, tests, worth = program.rule(label)
    _, _, other_body, other_tests, other_worth = program.rule(other)
    through = {variable: leads[words[variable]] for variable in words}
    behind = led_tests(tests, leads)
    further = led_tests(other_tests, through)
    if behind is None or further is None:
        return None
    atoms = [led_atom(atom, leads) for atom in body[:at]]
    atoms = atoms + [led_atom(atom, through) for atom in other_body]
    atoms = atoms + [led_atom(atom, leads) for atom in body[at + 1:]]
    return (led_atom(head, leads), tuple(atoms), behind + further, program.scale.times(worth, other_worth))

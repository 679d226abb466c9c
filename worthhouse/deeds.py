"""What is a deed, and whether it can be done to a program and a store (points S8.1 and S8.2)."""

from worthhouse.errors import BadDeed, BadRule, NoRow, NotTold, UnknownFact, UnknownLabel, UnknownThing
from worthhouse.ordering import ordered_program, ordered_store, rows_in_order, rules_in_order
from worthhouse.ruleforms import is_rule, kinds_in_rule, names_thing
from worthhouse.rules import Program
from worthhouse.scales import need_worth
from worthhouse.stores import is_fact


def behind_deed(program, store, deed):
    """The program and the store behind a deed, any value, in order; the program fits the store."""
    if not _is_deed(deed):
        raise BadDeed()
    do_deed = DOINGS[deed[0]]
    led_program, led_store = do_deed(program, store, deed)
    return (ordered_program(led_program), ordered_store(led_store))


def is_raise(value):
    """Whether the value, any one, has the form of a "raise"."""
    return _is_deed(value) and value[0] == "raise"


def need_row_deed(store, deed):
    """Raises what is wrong with a "tell" or a "raise", which is one by its form."""
    _, name, things, worth = deed
    if not store.frame.has_told(name):
        raise NotTold(name)
    if not is_fact(store.frame, store, (name, things)):
        raise UnknownFact((name, things))
    need_worth(store.scale, worth)


def with_row(store, name, things, worth):
    """The store, in order, in which the row of a told fact has this worth."""
    return store.with_rows(rows_in_order(_other_rows(store, name, things) + [(name, things, worth)]))


def _is_deed(value):
    if not isinstance(value, tuple) or not value or not isinstance(value[0], str) or value[0] not in FORMS:
        return False
    form = FORMS[value[0]]
    if len(value) != len(form) + 1:
        return False
    return all([_has_form(part, word) for part, word in zip(value[1:], form)])


def _has_form(value, word):
    if word == "rule":
        return is_rule(value)
    if word == "things":
        return isinstance(value, tuple) and all([isinstance(thing, str) for thing in value])
    return isinstance(value, str)


def _other_rows(store, name, things):
    return [row for row in store.rows() if row[:2] != (name, things)]


def _tell(program, store, deed):
    need_row_deed(store, deed)
    return (program, with_row(store, deed[1], deed[2], deed[3]))


def _raise_row(program, store, deed):
    need_row_deed(store, deed)
    _, name, things, worth = deed
    if store.has(name, things):
        worth = store.scale.plus(store.worth(name, things), worth)
    return (program, with_row(store, name, things, worth))


def _clear(program, store, deed):
    _, name, things = deed
    # This raises NotTold itself.
    if not store.has(name, things):
        raise NoRow(name, things)
    return (program, store.with_rows(_other_rows(store, name, things)))


def _put_rule(program, store, deed):
    rule = deed[1]
    rules = [other for other in program.rules() if other[0] != rule[0]]
    try:
        led = Program(program.frame, program.scale, rules_in_order([*rules, rule]))
    except BadRule:
        raise BadDeed() from None
    for place, kind in kinds_in_rule(program.frame, rule, {}).items():
        if names_thing(place) and not store.has_thing(place[1:], kind):
            raise UnknownThing(place[1:])
    return (led, store)


def _take_rule(program, store, deed):
    label = deed[1]
    if not program.has_rule(label):
        raise UnknownLabel(label)
    rules = [rule for rule in program.rules() if rule[0] != label]
    return (Program(program.frame, program.scale, rules), store)


FORMS = {
    "tell": ("name", "things", "worth"),
    "raise": ("name", "things", "worth"),
    "clear": ("name", "things"),
    "rule": ("rule",),
    "unrule": ("label",),
}
DOINGS = {"tell": _tell, "raise": _raise_row, "clear": _clear, "rule": _put_rule, "unrule": _take_rule}

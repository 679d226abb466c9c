"""Uses of rules, and their worths (point S3.1)."""

from worthhouse.fillings import fillings_of
from worthhouse.ruleforms import names_thing, test_holds
from worthhouse.rules import need_fit


def uses_of(program, store):
    """The list of all uses, rule by rule."""
    need_fit(program, store)
    found = []
    for label in program.labels():
        shape = _shape_of(program, label)
        found.extend([_use(shape, things) for things in fillings_of(program, store, label)])
    return found


def use_worth(program, store, use):
    """The product of the rule's worth and the worths of the told rows."""
    need_fit(program, store)
    return weight_of(program, row_worths(store), use)


def row_worths(store):
    """A dict from the facts of the rows to their worths."""
    return {(name, things): worth for name, things, worth in store.rows()}


def weight_of(program, worths, use):
    """The worth of a use, by the dict of the worths of the rows."""
    worth = program.rule(use[0])[4]
    for fact in use[3]:
        worth = program.scale.times(worth, worths[fact])
    return worth


def weighed_uses(program, store):
    """The list of the pairs of a use and its worth, of all uses."""
    worths = row_worths(store)
    return [(use, weight_of(program, worths, use)) for use in uses_of(program, store)]


def use_at(program, store, label, things):
    """The use with this label and these things, any values, of a program that fits the store; None if it is none."""
    if not program.has_rule(label) or not isinstance(things, tuple):
        return None
    kinds = program.kinds_of(label)
    if len(things) != len(kinds) or not all([store.has_thing(thing, kind) for thing, kind in zip(things, kinds)]):
        return None
    filling = dict(zip(program.variables(label), things))
    if not all([test_holds(test, filling) for test in program.rule(label)[3]]):
        return None
    use = _use(_shape_of(program, label), things)
    if not all([store.has(name, filled) for name, filled in use[3]]):
        return None
    return use


def _shape_of(program, label):
    """What all uses of a rule share: label, variables, the things it names, head, atoms of told and of ruled tables."""
    _, head, body, _, _ = program.rule(label)
    named = {place: place[1:] for _, places in (head, *body) for place in places if names_thing(place)}
    told = [atom for atom in body if not program.frame.is_ruled(atom[0])]
    ruled = [atom for atom in body if program.frame.is_ruled(atom[0])]
    return (label, program.variables(label), named, head, told, ruled)


def _use(shape, things):
    label, variables, named, head, told, ruled = shape
    filling = {**named, **dict(zip(variables, things))}
    head_fact = _facts_at([head], filling)[0]
    return (label, things, head_fact, tuple(_facts_at(told, filling)), tuple(_facts_at(ruled, filling)))


def _facts_at(atoms, filling):
    """The facts that the atoms become, by a dict from all their places to things."""
    return [(name, tuple([filling[place] for place in places])) for name, places in atoms]

"""Uses of rules, and their worths (point S3.1)."""

from worthhouse.fillings import fillings_of
from worthhouse.ruleforms import test_holds
from worthhouse.rules import need_fit


def uses_of(program, store):
    """The list of all uses, rule by rule."""
    need_fit(program, store)
    return [use for label in program.labels() for use in _uses_for(program, store, label)]


def use_worth(program, store, use):
    """The product of the rule's worth and the worths of the told rows."""
    need_fit(program, store)
    return weight_of(program, row_worths(store), use)


def row_worths(store):
    """A dict from the facts of the rows to their worths."""
    return {(name, things): worth for name, things, worth in store.rows()}


def weight_of(program, worths, use):
    """The worth of a use, by the dict of the worths of the rows."""
    worth = program.rule(use[0])[4]
    for fact in use[3]:
        worth = program.scale.times(worth, worths[fact])
    return worth


def weighed_uses(program, store):
    """The list of the pairs of a use and its worth, of all uses."""
    need_fit(program, store)
    return weighed_uses_for(program, store, program.labels())


def weighed_uses_for(program, store, labels):
    """The list of the pairs of a use and its worth, of the uses of some rules of a program that fits the store."""
    worths = row_worths(store)
    products = program.scale.product_rows()
    found = []
    for label in labels:
        own = program.rule(label)[4]
        for use in _uses_for(program, store, label):
            worth = own
            for fact in use[3]:
                worth = products[worth][worths[fact]]
            found.append((use, worth))
    return found


def use_at(program, store, label, things):
    """The use with this label and these things, any values, of a program that fits the store; None if it is none."""
    if not program.has_rule(label) or not isinstance(things, tuple):
        return None
    kinds = program.kinds_of(label)
    if len(things) != len(kinds) or not all([store.has_thing(thing, kind) for thing, kind in zip(things, kinds)]):
        return None
    tests = program.rule(label)[3]
    if tests:
        filling = dict(zip(program.variables(label), things))
        if not all([test_holds(test, filling) for test in tests]):
            return None
    use = _use(label, program.shape(label), things)
    if not all([store.has(name, filled) for name, filled in use[3]]):
        return None
    return use


def _uses_for(program, store, label):
    """The list of the uses of a rule."""
    shape = program.shape(label)
    return [_use(label, shape, things) for things in fillings_of(program, store, label)]


def _use(label, shape, things):
    named, head, told, ruled = shape
    values = things + named
    head_name, head_picks = head
    return (
        label,
        things,
        (head_name, tuple([values[pick] for pick in head_picks])),
        tuple([(name, tuple([values[pick] for pick in picks])) for name, picks in told]),
        tuple([(name, tuple([values[pick] for pick in picks])) for name, picks in ruled]),
    )

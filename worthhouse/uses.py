"""Uses of rules, and their worths (point S3.1)."""

from worthhouse.fillings import fillings_of
from worthhouse.rules import filled, need_fit


def uses_of(program, store):
    """The list of all uses, rule by rule."""
    need_fit(program, store)
    return [
        _use(program, label, things)
        for label in program.labels()
        for things in fillings_of(program, store, label)
    ]


def use_worth(program, store, use):
    """The product of the rule's worth and the worths of the told rows."""
    need_fit(program, store)
    return weight_of(program, store, use)


def weight_of(program, store, use):
    """The worth of a use of a program that is known to fit the store."""
    label, _, _, told, _ = use
    worth = program.rule(label)[4]
    for name, things in told:
        worth = program.scale.times(worth, store.worth(name, things))
    return worth


def _use(program, label, things):
    head, body, _ = filled(program, label, things)
    told = tuple([fact for fact in body if not program.frame.is_ruled(fact[0])])
    ruled = tuple([fact for fact in body if program.frame.is_ruled(fact[0])])
    return (label, things, head, told, ruled)

"""Levels: ruled tables that hang on one another, and tables settled level by level (point S3.6)."""

from worthhouse.resting import need_steady
from worthhouse.rounds import first_table, led_to_rest, weights_of


def levels(program):
    """The list of the levels, each the list of its tables' names."""
    names = [name for name, _ in program.frame.ruled()]
    hung = {name: tables_under(program, name) for name in names}
    waiting = _levels_by_first(names, hung)
    found = []
    while waiting:
        done = [name for level in found for name in level]
        ready = [level for level in waiting if all([name in done or name in level for name in hung[level[0]]])]
        found.append(ready[0])
        waiting.remove(ready[0])
    return found


def settled_by_levels(program, store):
    """The settled table, and the list of the numbers of rounds, level by level."""
    table = first_table(program, store)
    need_steady(program.scale)
    weights = weights_of(program, store)
    counts = []
    for level in levels(program):
        facts = [fact for fact in table if fact[0] in level]
        own = [weight for weight in weights if weight[0][0] in level]
        table, count = led_to_rest(program.scale, own, facts, table)
        counts.append(count)
    return (table, counts)


def tables_under(program, name):
    """The list of the ruled tables on which a ruled table hangs, perhaps with itself."""
    found = _used_by(program, name)
    at = 0
    while at < len(found):
        further = [used for used in _used_by(program, found[at]) if used not in found]
        found.extend(further)
        at += 1
    return found


def _used_by(program, name):
    """The list of the ruled tables that a ruled table uses, each once."""
    found = []
    for label in program.rules_for(name):
        for used, _ in program.rule(label)[2]:
            if program.frame.is_ruled(used) and used not in found:
                found.append(used)
    return found


def _levels_by_first(names, hung):
    """The levels in the order of their first tables."""
    found = []
    done = set()
    for name in names:
        if name not in done:
            level = [other for other in names if other == name or (other in hung[name] and name in hung[other])]
            found.append(level)
            for member in level:
                done.add(member)
    return found

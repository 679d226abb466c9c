"""Worths of some ruled facts alone, and worths that are settled one fact after the other."""

from worthhouse.errors import BadTable
from worthhouse.resting import need_steady
from worthhouse.rounds import first_table, is_ruled_fact, led_on, led_to_rest, need_ruled_facts, ruled_facts, weights_of
from worthhouse.words import is_list


def settled_one_by_one(program, store, order):
    """The settled table, and the number of passes through the order that changed something (point S3.7)."""
    table = first_table(program, store)
    need_steady(program.scale)
    if not _is_order(program, store, order, len(table)):
        raise BadTable()
    by_head = weights_by_head(table, weights_of(program, store))
    passes = 0
    while True:
        passed = _behind_pass(program.scale, by_head, order, table)
        if passed == table:
            return (table, passes)
        table = passed
        passes += 1


def whole_facts(program, store, facts):
    """The least whole set that has these facts, in the order of ruled_facts (point S3.8)."""
    every = ruled_facts(program, store)
    need_ruled_facts(program, store, facts)
    return whole_by(every, weights_of(program, store), facts)


def settled_on(program, store, facts):
    """The settled worths of the facts that whole_facts tells, and the number of rounds for these alone."""
    every = ruled_facts(program, store)
    need_ruled_facts(program, store, facts)
    need_steady(program.scale)
    weights = weights_of(program, store)
    table = {fact: program.scale.nought for fact in whole_by(every, weights, facts)}
    own = [weight for weight in weights if weight[0] in table]
    return led_to_rest(program.scale, own, list(table), table)


def weights_by_head(facts, weights):
    """A dict from each of the facts to the list of the weights whose head it is."""
    by_head = {fact: [] for fact in facts}
    for weight in weights:
        if weight[0] in by_head:
            by_head[weight[0]].append(weight)
    return by_head


def whole_by(every, weights, facts):
    """The least whole set that has these facts, by all ruled facts and the weights of all uses."""
    by_head = weights_by_head(every, weights)
    found = {fact: True for fact in facts}
    waiting = list(found)
    while waiting:
        head = waiting.pop()
        for _, _, ruled in by_head[head]:
            further = {fact: True for fact in ruled if fact not in found}
            found.update(further)
            waiting.extend(list(further))
    return [fact for fact in every if fact in found]


def _is_order(program, store, order, many):
    """Whether the order, any value, has all ruled facts, each once; many tells how many there are."""
    if not is_list(order) or len(order) != many:
        return False
    if not all([is_ruled_fact(program, store, fact) for fact in order]):
        return False
    return len(set(order)) == many


def _behind_pass(scale, by_head, order, table):
    """The table behind a pass, in which each fact gets its sum by what the table has at that moment."""
    passed = {fact: table[fact] for fact in table}
    for fact in order:
        passed.update(led_on(scale, by_head[fact], [fact], passed))
    return passed

"""Rounds: tables of worths of the ruled facts, led on until nothing changes.

Inside the package a program and a store are led by their weights: the list of the
tuples (head, worth, ruled) of the uses, with the worth of each use.
"""

from worthhouse.errors import BadTable, TooMany, UnknownFact
from worthhouse.frames import Frame
from worthhouse.resting import need_steady, steady
from worthhouse.rules import Program, need_fit
from worthhouse.stores import Store, is_fact
from worthhouse.uses import weighed_uses

MOST_ROUNDS = 300


def ruled_facts(program, store):
    """The list of all facts of the ruled tables."""
    need_fit(program, store)
    return [fact for name, _ in program.frame.ruled() for fact in store.facts_of(name)]


def is_ruled_fact(program, store, value):
    """Whether the value, any one, is a fact of a ruled table."""
    return is_fact(program.frame, store, value) and program.frame.has_ruled(value[0])


def need_ruled_facts(program, store, facts):
    """Raises UnknownFact for the first of the facts, any values, that is no ruled fact."""
    for fact in facts:
        if not is_ruled_fact(program, store, fact):
            raise UnknownFact(fact)


def first_table(program, store):
    """The table with nought for each ruled fact."""
    return {fact: program.scale.nought for fact in ruled_facts(program, store)}


def round_of(program, store, table):
    """The table behind one round."""
    facts = ruled_facts(program, store)
    if not _is_table(program.scale, facts, table):
        raise BadTable()
    return led_on(program.scale, weights_of(program, store), facts, table)


def tables(program, store, count):
    """The list of the first table and of those behind 1 to count rounds."""
    table = first_table(program, store)
    weights = weights_of(program, store)
    found = [table]
    for _ in range(count):
        table = led_on(program.scale, weights, list(table), table)
        found.append(table)
    return found


def settled(program, store):
    """The settled table, and the number of rounds behind which it is there (point S3.4)."""
    table = first_table(program, store)
    need_steady(program.scale)
    return led_to_rest(program.scale, weights_of(program, store), list(table), table)


def going_round(program, store):
    """From which round on the tables come again, and after how many rounds (point S3.5)."""
    table = first_table(program, store)
    weights = weights_of(program, store)
    seen = {}
    for count in range(MOST_ROUNDS + 1):
        worths = tuple(table.values())
        if worths in seen:
            return (seen[worths], count - seen[worths])
        seen[worths] = count
        table = led_on(program.scale, weights, list(table), table)
    raise TooMany()


def breaker(scale):
    """None for a steady scale, else a program and a store whose tables never rest."""
    if steady(scale):
        return None
    frame = Frame([], [], [("p", ())])
    # Behind k rounds the worth is the sum of k ones: this never rests, as the scale is not steady.
    start = ("start", ("p", ()), (), (), scale.one)
    again = ("again", ("p", ()), (("p", ()),), (), scale.one)
    return (Program(frame, scale, [start, again]), Store(frame, scale, [], []))


def weights_of(program, store):
    """The list of (head, worth, ruled) of all uses."""
    return weights_by(weighed_uses(program, store))


def weights_by(weighed):
    """The list of (head, worth, ruled) by the pairs of a use and its worth."""
    return [(use[2], worth, use[4]) for use, worth in weighed]


def led_on(scale, weights, facts, table):
    """The dict of the worths that a round gives these facts, the heads of all weights being among them."""
    sums = scale.sum_rows()
    products = scale.product_rows()
    led = {}
    for head, worth, ruled in weights:
        for fact in ruled:
            worth = products[worth][table[fact]]
        led[head] = sums[led[head]][worth] if head in led else worth
    return {fact: led.get(fact, scale.nought) for fact in facts}


def led_to_rest(scale, weights, facts, table):
    """The table in which rounds for these facts alone change nothing any more, and their number."""
    count = 0
    while True:
        led = led_on(scale, weights, facts, table)
        if all([led[fact] == table[fact] for fact in facts]):
            return (table, count)
        table = {fact: led[fact] if fact in led else table[fact] for fact in table}
        count += 1


def _is_table(scale, facts, value):
    """Whether the value, any one, is a dict from just these facts to worths of the scale."""
    if not isinstance(value, dict) or len(value) != len(facts):
        return False
    return all([fact in value and value[fact] in scale for fact in facts])

"""Numbers of rows in trees once more: by the sets of all numbers, those above 3 being one."""

import itertools


def number_sets(steps):
    """A dict from heads to the sets of the numbers that their trees have; steps are (head, number, below)."""
    found = {}
    while True:
        wider = {head: set(numbers) for head, numbers in found.items()}
        for head, number, below in steps:
            for numbers in itertools.product(*[found.get(one, ()) for one in below]):
                wider.setdefault(head, set()).add(min(4, number + sum(numbers)))
        if wider == found:
            return found
        found = wider


def pair_of(numbers):
    """(few, most) of a set of numbers."""
    if not numbers:
        return ("many", 0)
    return tuple("many" if number == 4 else number for number in (min(numbers), max(numbers)))


def plain_spreads(program, name):
    ruled = [table for table, _ in program.frame.ruled()]
    steps = []
    for _, head, body, _, _ in program.rules():
        tables = [atom[0] for atom in body]
        steps.append((head[0], tables.count(name), [table for table in tables if table in ruled]))
    sets = number_sets(steps)
    return {table: pair_of(sets.get(table)) for table in ruled}


def plain_between(uses, fact, name):
    steps = [(head, [row[0] for row in told].count(name), ruled) for _, _, head, told, ruled in uses]
    return pair_of(number_sets(steps).get(fact))

"""Part 3 once more, in the plainest way: all fillings are gone through, nothing is left out early."""

import itertools


def thing_at(place, filling):
    return place[1:] if place[0] == "@" else filling[place]


def plain_uses(program, store):
    found = []
    for label, head, body, tests, _ in program.rules():
        variables = []
        for places in [head[1]] + [atom[1] for atom in body] + [test[1:] for test in tests]:
            for place in places:
                if place[0] != "@" and place not in variables:
                    variables.append(place)
        kinds = {}
        for name, places in (head,) + body:
            kinds.update(zip(places, program.frame.places(name)))
        lists = [[thing for thing, kind in store.things() if kind == kinds[name]] for name in variables]
        for things in itertools.product(*lists):
            filling = dict(zip(variables, things))

            def fact(atom):
                return (atom[0], tuple(thing_at(place, filling) for place in atom[1]))

            same = {"same": True, "unlike": False}
            if any((thing_at(p, filling) == thing_at(q, filling)) is not same[word] for word, p, q in tests):
                continue
            facts = [fact(atom) for atom in body]
            told = tuple(f for f in facts if not program.frame.is_ruled(f[0]))
            ruled = tuple(f for f in facts if program.frame.is_ruled(f[0]))
            rows = [row[:2] for row in store.rows()]
            if all(f in rows for f in told):
                found.append((label, things, fact(head), told, ruled))
    return found


def plain_worth(program, store, use):
    worth = program.rule(use[0])[4]
    rows = {row[:2]: row[2] for row in store.rows()}
    for fact in use[3]:
        worth = program.scale.times(worth, rows[fact])
    return worth


def plain_facts(program, store):
    found = []
    for name, kinds in program.frame.ruled():
        lists = [[thing for thing, kind in store.things() if kind == wanted] for wanted in kinds]
        found += [(name, things) for things in itertools.product(*lists)]
    return found


def plain_round(program, store, table):
    scale = program.scale
    behind = {}
    for fact in table:
        worth = None
        for use in plain_uses(program, store):
            if use[2] == fact:
                product = plain_worth(program, store, use)
                for needed in use[4]:
                    product = scale.times(product, table[needed])
                worth = product if worth is None else scale.plus(worth, product)
        behind[fact] = scale.nought if worth is None else worth
    return behind


def plain_tables(program, store, count):
    found = [{fact: program.scale.nought for fact in plain_facts(program, store)}]
    for _ in range(count):
        found.append(plain_round(program, store, found[-1]))
    return found


def plain_settled(program, store):
    table, rounds = plain_tables(program, store, 0)[0], 0
    while True:
        behind = plain_round(program, store, table)
        if behind == table:
            return table, rounds
        table, rounds = behind, rounds + 1

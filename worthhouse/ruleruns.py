"""Rules worked out by relations, without going through their uses one by one.

A rule may have many variables that its head has not, so it may have very many uses.
Each such variable is summed out as soon as all that speaks of it has been multiplied.
"""

from worthhouse.relations import alone, at_places, by_columns, multiplied, summed, summed_out, where_holds
from worthhouse.ruleforms import names_thing


def settled_tables(program, told):
    """A dict from all tables to their worths, dicts by things, when rounds change nothing any more.

    told has the worths of the told tables. There must be such a moment: the scale is
    steady, or no table hangs on itself. The places in heads are unlike variables.
    """
    names = [name for name, _ in program.frame.ruled()]
    rules = {name: [program.rule(label) for label in program.rules_for(name)] for name in names}
    worths = {**told, **{name: {} for name in names}}
    waiting = names
    while waiting:
        led = {name: _led_table(program.scale, worths, name, rules[name]) for name in waiting}
        changed = {name: True for name in waiting if led[name] != worths[name]}
        worths.update(led)
        waiting = [name for name in names if any([_calls(rule, changed) for rule in rules[name]])]
    return worths


def _calls(rule, names):
    return any([atom[0] in names for atom in rule[2]])


def _led_table(scale, worths, name, rules):
    """The worths that the rules of a table give it."""
    together = ((), {})
    for rule in rules:
        places = rule[1][1]
        led = (places, by_columns(relation_of(scale, worths, rule), places))
        together = summed(scale, led, together)
    return together[1]


def relation_of(scale, worths, rule):
    """The relation of the variables of a rule's head, by a dict from the tables in its body to their worths."""
    _, head, body, tests, worth = rule
    parts = [alone(scale, worth)] + [at_places(worths[name], places) for name, places in body]
    parts, left = _tested_parts(parts, tests)
    hidden = [column for column in _columns_in(parts) if column not in head[1]]
    while hidden:
        variable = _cheapest(parts, left, hidden)
        hidden.remove(variable)
        chosen = _speaking(parts, left, variable)
        others = [part for number, part in enumerate(parts) if number not in chosen]
        joined_parts, left = _tested_parts([_product(scale, [parts[number] for number in chosen])], left)
        parts = others + [summed_out(scale, joined_parts[0], variable)]
    tested, _ = _tested_parts([_product(scale, parts)], left)
    return tested[0]


def _product(scale, parts):
    together = parts[0]
    for part in parts[1:]:
        together = multiplied(scale, together, part)
    return together


def _columns_in(parts):
    """The list of all columns of the parts, each once."""
    return list({column: True for columns, _ in parts for column in columns})


def _variables_of(test):
    return [place for place in test[1:] if not names_thing(place)]


def _tested_parts(parts, tests):
    """The parts with each test done on one that has its variables, and the tests that no part can be asked yet."""
    left = []
    tested = list(parts)
    for test in tests:
        able = [
            number
            for number, (columns, _) in enumerate(tested)
            if all([variable in columns for variable in _variables_of(test)])
        ]
        if able:
            tested[able[0]] = where_holds(tested[able[0]], test)
        else:
            left.append(test)
    return tested, left


def _speaking(parts, tests, variable):
    """The numbers of the parts that must be multiplied ahead of summing out a variable."""
    asked = [variable]
    for test in tests:
        if variable in test[1:]:
            asked.extend(_variables_of(test))
    return [number for number, (columns, _) in enumerate(parts) if any([column in columns for column in asked])]


def _cheapest(parts, tests, variables):
    """The first variable by which the fewest columns are brought together."""
    sizes = [len(_columns_in([parts[number] for number in _speaking(parts, tests, one)])) for one in variables]
    return variables[sizes.index(min(sizes))]

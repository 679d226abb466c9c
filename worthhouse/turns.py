"""Turns of programs: done, planned and listed (points S7.1 to S7.4)."""

from worthhouse.errors import UnknownName
from worthhouse.ruleforms import names_thing
from worthhouse.turnforms import MOST_FOLDED_PLACES, fold_variables, need_turn
from worthhouse.turning import Turning, kept_tables


def turned(program, turn):
    """The program behind a turn."""
    return Turning(program, turn).behind


def planned(program, turns):
    """The program behind a list of turns, one behind the other."""
    for turn in turns:
        program = turned(program, turn)
    return program


def kept_names(program, turn):
    """The list of the ruled tables that keep their worths."""
    need_turn(program, turn)
    if turn[0] == "drop":
        return kept_tables(program, turn[1])
    return [name for name, _ in program.frame.ruled()]


def all_turns(program, names):
    """The list of the turns that can be done, form by form."""
    need_ruled_tables(program, names)
    found = _unfolds(program) + _folds(program) + _drops(program, names)
    return found + _orders(program) + _joins(program) + _parts(program) + _specials(program)


def saving_turns(program, names):
    """Those of all_turns that can make uses fewer, in their order.

    An order of atoms has as many uses as the other one; the two rules of a part share
    those of the rule; and a special turn takes no rule away.
    """
    return _unfolds(program) + _folds(program) + _drops(program, names) + _joins(program)


def need_ruled_tables(program, names):
    """Raises UnknownName for the first of the names that is no ruled table."""
    for name in names:
        if not program.frame.has_ruled(name):
            raise UnknownName(name)


def _unfolds(program):
    return [
        ("unfold", label, at)
        for label, _, body, _, _ in program.rules()
        for at, atom in enumerate(body)
        if program.frame.is_ruled(atom[0])
    ]


def _folds(program):
    return [
        ("fold", rule[0], (at, at + 1))
        for rule in program.rules()
        for at in range(len(rule[2]) - 1)
        if len(fold_variables(rule, (at, at + 1))) <= MOST_FOLDED_PLACES
    ]


def _drops(program, names):
    kept = kept_tables(program, names)
    if all([rule[1][0] in kept for rule in program.rules()]):
        return []
    return [("drop", tuple({name: True for name in names}))]


def _orders(program):
    found = []
    for label, _, body, _, _ in program.rules():
        places = list(range(len(body)))
        for at in range(1, len(body)):
            if body[at - 1] != body[at]:
                found.append(("order", label, (*places[:at - 1], at, at - 1, *places[at + 1:])))
    return found


def _joins(program):
    rules = program.rules()
    return [
        ("join", rule[0], other[0])
        for number, rule in enumerate(rules)
        for other in rules[number + 1:]
        if rule[1:4] == other[1:4]
    ]


def _parts(program):
    found = []
    for label in program.labels():
        variables = program.variables(label)
        for number, one in enumerate(variables):
            kind = program.kind_at(label, one)
            further = [other for other in variables[number + 1:] if program.kind_at(label, other) == kind]
            found.extend([("part", label, one, other) for other in further])
    return found


def _specials(program):
    things = {}
    for _, _, body, _, _ in program.rules():
        for name, places in body:
            for at, place in enumerate(places):
                if names_thing(place):
                    things.setdefault((name, at), {})[place[1:]] = True
    return [
        ("special", name, at, thing)
        for name, kinds in program.frame.ruled()
        for at in range(len(kinds))
        for thing in things.get((name, at), {})
    ]

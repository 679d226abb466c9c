"""The frame and the rules behind a turn (points S7.1 to S7.3), and where the new rules come from.

The origins of a turn are what lines are led by:
- unfold: a dict from the new labels to the meetings that gave them;
- fold: the pair of the new table's name and its rule's label;
- part: the pair of the new labels;
- special: the pair of the new table's name and a dict from labels to those of the copies;
- others have none: the empty tuple.
"""

from worthhouse.frames import made_frame
from worthhouse.levels import tables_under
from worthhouse.meeting import led_atom, led_tests, meetings_of
from worthhouse.ruleforms import names_thing
from worthhouse.rules import made_program
from worthhouse.turnforms import fold_variables, need_turn, new_labels, new_table


class Turning:
    """A turn of a program: the program ahead of it and behind it, and the origins of the new rules."""

    def __init__(self, program, turn):
        need_turn(program, turn)
        frame, rules, origins = rules_behind(program, turn)
        self.ahead = program
        self.turn = turn
        self.behind = made_program(frame, program.scale, rules)
        self.origins = origins


def rules_behind(program, turn):
    """The frame, the list of the rules, and the origins, behind a turn that can be done."""
    change = CHANGES[turn[0]]
    return change(program, turn)


def kept_tables(program, names):
    """The list of the ruled tables with these names and of those on which they hang, in the frame's order."""
    kept = {}
    for name in names:
        kept[name] = True
        kept.update({table: True for table in tables_under(program, name)})
    return [name for name, _ in program.frame.ruled() if name in kept]


def pairs_places(name, place, thing, atom):
    """Whether an atom of the table has the thing at the place, so that a special turn changes it."""
    return atom[0] == name and atom[1][place] == "@" + thing


def copied_parts(rule, turn):
    """Head, body, tests and worth of a rule with the thing of a special turn at the place; None if there is no copy."""
    _, _, place, thing = turn
    _, head, body, tests, worth = rule
    stands = head[1][place]
    if names_thing(stands) and stands != "@" + thing:
        return None
    leads = {} if names_thing(stands) else {stands: "@" + thing}
    left = led_tests(tests, leads)
    if left is None:
        return None
    return (led_atom(head, leads), tuple([led_atom(atom, leads) for atom in body]), left, worth)


def without_place(places, at):
    """The tuple without what stands at a place."""
    return places[:at] + places[at + 1:]


def _exchanged(program, label, rules):
    """The list of the program's rules with others where the one with this label stood."""
    found = []
    for rule in program.rules():
        if rule[0] == label:
            found.extend(rules)
        else:
            found.append(rule)
    return found


def _with_table(frame, name, kinds):
    """The frame with a further ruled table behind all others."""
    return made_frame(frame.kinds(), frame.told(), [*frame.ruled(), (name, kinds)])


def _unfold_behind(program, turn):
    _, label, at = turn
    meetings = meetings_of(program, label, at)
    labels = new_labels(program, [label] * len(meetings))
    rules = [(new_label, *meeting.parts) for new_label, meeting in zip(labels, meetings)]
    return (program.frame, _exchanged(program, label, rules), dict(zip(labels, meetings)))


def _fold_behind(program, turn):
    _, label, places = turn
    rule = program.rule(label)
    _, head, body, tests, worth = rule
    variables = tuple(fold_variables(rule, places))
    name = new_table(program.frame)
    own_label = new_labels(program, ["n"])[0]
    atom = (name, variables)
    left = [atom if number == places[0] else body[number] for number in range(len(body)) if number not in places[1:]]
    rules = _exchanged(program, label, [(label, head, tuple(left), tests, worth)])
    rules.append((own_label, atom, tuple([body[number] for number in places]), (), program.scale.one))
    kinds = tuple([program.kind_at(label, variable) for variable in variables])
    return (_with_table(program.frame, name, kinds), rules, (name, own_label))


def _drop_behind(program, turn):
    kept = kept_tables(program, turn[1])
    return (program.frame, [rule for rule in program.rules() if rule[1][0] in kept], ())


def _order_behind(program, turn):
    _, label, places = turn
    _, head, body, tests, worth = program.rule(label)
    rule = (label, head, tuple([body[number] for number in places]), tests, worth)
    return (program.frame, _exchanged(program, label, [rule]), ())


def _join_behind(program, turn):
    _, label, other = turn
    _, head, body, tests, worth = program.rule(label)
    rule = (label, head, body, tests, program.scale.plus(worth, program.rule(other)[4]))
    rules = [kept for kept in _exchanged(program, label, [rule]) if kept[0] != other]
    return (program.frame, rules, ())


def _part_behind(program, turn):
    _, label, one, other = turn
    _, head, body, tests, worth = program.rule(label)
    labels = new_labels(program, [label, label])
    rules = [
        (labels[0], head, body, (*tests, ("same", one, other)), worth),
        (labels[1], head, body, (*tests, ("unlike", one, other)), worth),
    ]
    return (program.frame, _exchanged(program, label, rules), tuple(labels))


def _special_behind(program, turn):
    _, name, place, thing = turn
    table = new_table(program.frame)
    copied = [(label, copied_parts(program.rule(label), turn)) for label in program.rules_for(name)]
    copied = [(label, parts) for label, parts in copied if parts is not None]
    labels = new_labels(program, [label for label, _ in copied])
    rules = program.rules()
    for label, (_, parts) in zip(labels, copied):
        rules.append((label, (table, without_place(parts[0][1], place)), *parts[1:]))
    found = []
    for label, head, body, tests, worth in rules:
        atoms = [
            (table, without_place(atom[1], place)) if pairs_places(name, place, thing, atom) else atom for atom in body
        ]
        found.append((label, head, tuple(atoms), tests, worth))
    kinds = without_place(program.frame.places(name), place)
    copies = {label: copy for copy, (label, _) in zip(labels, copied)}
    return (_with_table(program.frame, table, kinds), found, (table, copies))


CHANGES = {
    "unfold": _unfold_behind,
    "fold": _fold_behind,
    "drop": _drop_behind,
    "order": _order_behind,
    "join": _join_behind,
    "part": _part_behind,
    "special": _special_behind,
}

"""Papers led forth over a turn, form by form (point S7.5)."""

from worthhouse.leading import (
    Leading,
    filling_of,
    ordered_children,
    ruled_places,
    special_flags,
    things_for,
    unfolded_span,
)
from worthhouse.turning import copied_parts, kept_tables, without_place


def led_forth(turning, facts, lines):
    """The paper behind a turn, by the facts and the right lines of one ahead of it."""
    form = FORTH[turning.turn[0]]
    return form(turning, facts, lines)


def _unfold_forth(turning, facts, lines):
    label = turning.turn[1]
    span = unfolded_span(turning)
    by_other = {meeting.label: (new_label, meeting) for new_label, meeting in turning.origins.items()}
    leading = Leading()
    for line in lines:
        own_label, things, children = line
        if own_label != label:
            leading.lead(own_label, things, leading.led(children))
            continue
        other, other_things, other_children = lines[children[span]]
        new_label, meeting = by_other[other]
        filling = {**filling_of(turning.ahead, line), **dict(zip(meeting.words, other_things))}
        below = children[:span] + other_children + children[span + 1:]
        leading.lead(new_label, things_for(turning.behind, new_label, filling), leading.led(below))
    return (facts, leading.lines())


def _fold_forth(turning, facts, lines):
    _, label, places = turning.turn
    table, own_label = turning.origins
    stood = ruled_places(turning.ahead, label)
    variables = turning.behind.rule(own_label)[1][1]
    further = {fact: True for fact in facts}
    leading = Leading()
    for line in lines:
        if line[0] != label:
            leading.lead(line[0], line[1], leading.led(line[2]))
            continue
        filling = filling_of(turning.ahead, line)
        below = dict(zip(stood, leading.led(line[2])))
        inner = [below[place] for place in places if place in below]
        number = leading.put(own_label, things_for(turning.behind, own_label, filling), inner)
        further[(table, tuple([filling[variable] for variable in variables]))] = True
        left = {**{place: below[place] for place in below if place not in places}, places[0]: number}
        leading.lead(label, things_for(turning.behind, label, filling), [left[place] for place in sorted(left)])
    return (tuple(further), leading.lines())


def _drop_forth(turning, facts, lines):
    kept = kept_tables(turning.ahead, turning.turn[1])
    leading = Leading()
    for label, things, children in lines:
        if turning.behind.has_rule(label):
            leading.lead(label, things, leading.led(children))
        else:
            leading.lead_to(None)
    return (tuple([fact for fact in facts if fact[0] in kept]), leading.lines())


def _order_forth(turning, facts, lines):
    label = turning.turn[1]
    picks = ordered_children(turning)
    leading = Leading()
    for line in lines:
        own_label, things, children = line
        if own_label == label:
            things = things_for(turning.behind, label, filling_of(turning.ahead, line))
            children = [children[pick] for pick in picks]
        leading.lead(own_label, things, leading.led(children))
    return (facts, leading.lines())


def _join_forth(turning, facts, lines):
    _, label, other = turning.turn
    leading = Leading()
    for own_label, things, children in lines:
        leading.lead(label if own_label == other else own_label, things, leading.led(children))
    return (facts, leading.lines())


def _part_forth(turning, facts, lines):
    _, label, one, other = turning.turn
    same_label, unlike_label = turning.origins
    leading = Leading()
    for line in lines:
        own_label, things, children = line
        if own_label == label:
            filling = filling_of(turning.ahead, line)
            own_label = same_label if filling[one] == filling[other] else unlike_label
        leading.lead(own_label, things, leading.led(children))
    return (facts, leading.lines())


def _special_forth(turning, facts, lines):
    _, name, place, thing = turning.turn
    table, copies = turning.origins
    flags, copied_flags = _flags_by_label(turning)
    leading = Leading()
    copied = []
    for line in lines:
        label, things, children = line
        led = leading.led(children)
        leading.lead(label, things, _chosen(flags[label], led, [copied[child] for child in children]))
        copied.append(None)
        if label in copies and _is_special_line(turning, line):
            filling = filling_of(turning.ahead, line)
            below = _chosen(copied_flags[label], led, [copied[child] for child in children])
            copied[-1] = leading.put(copies[label], things_for(turning.behind, copies[label], filling), below)
    further = [
        (table, without_place(fact[1], place)) for fact in facts if fact[0] == name and fact[1][place] == thing
    ]
    return (facts + tuple(further), leading.lines())


def _flags_by_label(turning):
    """Dicts from labels to the flags of the rules, and to those of the copies, as they are ahead of the turn."""
    program = turning.ahead
    flags = {label: special_flags(program, turning.turn, program.rule(label)[2]) for label in program.labels()}
    copied_flags = {
        label: special_flags(program, turning.turn, copied_parts(program.rule(label), turning.turn)[1])
        for label in turning.origins[1]
    }
    return flags, copied_flags


def _chosen(flags, led, copied):
    """For each child the copy of its line where the flag says so, else the led line."""
    return [copy if flag else number for flag, number, copy in zip(flags, led, copied)]


def _is_special_line(turning, line):
    """Whether a line of a rule that has a copy is for a fact with the thing at the place."""
    _, _, place, thing = turning.turn
    stands = turning.ahead.rule(line[0])[1][1][place]
    return filling_of(turning.ahead, line).get(stands, thing) == thing


FORTH = {
    "unfold": _unfold_forth,
    "fold": _fold_forth,
    "drop": _drop_forth,
    "order": _order_forth,
    "join": _join_forth,
    "part": _part_forth,
    "special": _special_forth,
}

"""Papers led back over a turn, form by form (point S7.5)."""

from worthhouse.leading import Leading, filling_of, ordered_children, ruled_places, things_for, unfolded_span
from worthhouse.ruleforms import fact_at, thing_at


def led_back(turning, facts, lines):
    """The paper ahead of a turn, that is no join, by the facts and the right lines of one behind it."""
    form = BACK[turning.turn[0]]
    return form(turning, facts, lines)


def _unfold_back(turning, facts, lines):
    label = turning.turn[1]
    span = unfolded_span(turning)
    ahead = turning.ahead
    further = {fact: True for fact in facts}
    leading = Leading()
    for line in lines:
        led = leading.led(line[2])
        if line[0] not in turning.origins:
            leading.lead(line[0], line[1], led)
            continue
        meeting = turning.origins[line[0]]
        filling = filling_of(turning.behind, line)
        end = span + len(ruled_places(ahead, meeting.label))
        other_things = tuple([thing_at(meeting.leads[word], filling) for word in meeting.words])
        number = leading.put(meeting.label, other_things, led[span:end])
        head = ahead.rule(meeting.label)[1]
        further[fact_at(head, dict(zip(ahead.variables(meeting.label), other_things)))] = True
        things = tuple([thing_at(meeting.leads[variable], filling) for variable in ahead.variables(label)])
        leading.lead(label, things, led[:span] + [number] + led[end:])
    return (tuple(further), leading.lines())


def _fold_back(turning, facts, lines):
    _, label, places = turning.turn
    table, own_label = turning.origins
    stood = ruled_places(turning.ahead, label)
    at = ruled_places(turning.behind, label).index(places[0])
    leading = Leading()
    inner = []
    for line in lines:
        inner.append(None)
        if line[0] == own_label:
            inner[-1] = leading.led(line[2])
            leading.lead_to(None)
            continue
        led = leading.led(line[2])
        things = line[1]
        if line[0] == label:
            child = line[2][at]
            filling = {**filling_of(turning.behind, lines[child]), **filling_of(turning.behind, line)}
            things = things_for(turning.ahead, label, filling)
            led = _unfolded_children(stood, places, inner[child], led[:at] + led[at + 1:])
        leading.lead(line[0], things, led)
    return (tuple([fact for fact in facts if fact[0] != table]), leading.lines())


def _unfolded_children(stood, places, inner, left):
    """The children of the folded rule: for the named atoms the inner ones, for the others those that are left."""
    named = [place for place in stood if place in places]
    below = {**dict(zip(named, inner)), **dict(zip([place for place in stood if place not in places], left))}
    return [below[place] for place in stood]


def _as_it_is(turning, facts, lines):
    return (facts, lines)


def _order_back(turning, facts, lines):
    label = turning.turn[1]
    picks = ordered_children(turning)
    leading = Leading()
    for line in lines:
        own_label, things, children = line
        if own_label == label:
            things = things_for(turning.ahead, label, filling_of(turning.behind, line))
            children = [children[picks.index(place)] for place in range(len(picks))]
        leading.lead(own_label, things, leading.led(children))
    return (facts, leading.lines())


def _part_back(turning, facts, lines):
    leading = Leading()
    for own_label, things, children in lines:
        label = turning.turn[1] if own_label in turning.origins else own_label
        leading.lead(label, things, leading.led(children))
    return (facts, leading.lines())


def _special_back(turning, facts, lines):
    _, name, place, thing = turning.turn
    table, copies = turning.origins
    labels = {copies[label]: label for label in copies}
    leading = Leading()
    for line in lines:
        own_label, things, children = line
        label = labels.get(own_label, own_label)
        if own_label in labels:
            stands = turning.ahead.rule(label)[1][1][place]
            things = things_for(turning.ahead, label, {**filling_of(turning.behind, line), stands: thing})
        leading.lead(label, things, leading.led(children))
    left = {}
    for fact in facts:
        left[(name, fact[1][:place] + (thing,) + fact[1][place:]) if fact[0] == table else fact] = True
    return (tuple(left), leading.lines())


BACK = {
    "unfold": _unfold_back,
    "fold": _fold_back,
    "drop": _as_it_is,
    "order": _order_back,
    "part": _part_back,
    "special": _special_back,
}

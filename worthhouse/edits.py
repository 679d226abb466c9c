"""Edits of programs and stores by deeds, and what stays right behind them (points S8.2 to S8.5)."""

from worthhouse.asking import whole_by
from worthhouse.deeds import behind_deed
from worthhouse.errors import MixedFrames, MixedScales
from worthhouse.growing import Growing
from worthhouse.judging import need_paper
from worthhouse.keeping import Keeping
from worthhouse.resting import need_steady
from worthhouse.rounds import ruled_facts, weights_by
from worthhouse.rules import need_fit
from worthhouse.settling import settled_worths
from worthhouse.uses import row_worths, weighed_uses, weighed_uses_for


def edited(program, store, deed):
    """The tuple of the program and the store behind a deed, in order."""
    need_fit(program, store)
    return behind_deed(program, store, deed)


def back(program, store, deed):
    """The one deed that leads back from what edited returns."""
    edited(program, store, deed)
    word = deed[0]
    if word in ("rule", "unrule"):
        label = deed[1][0] if word == "rule" else deed[1]
        return ("rule", program.rule(label)) if program.has_rule(label) else ("unrule", label)
    _, name, things = deed[:3]
    if store.has(name, things):
        return ("tell", name, things, store.worth(name, things))
    return ("clear", name, things)


def deeds_between(program, store, other, other_store):
    """The list of the fewest deeds that lead from the one's rules and rows to the other's."""
    need_fit(program, store)
    need_fit(other, other_store)
    if program.frame != other.frame:
        raise MixedFrames()
    if program.scale != other.scale:
        raise MixedScales()
    found = []
    for label in sorted(set(program.labels() + other.labels())):
        if not other.has_rule(label):
            found.append(("unrule", label))
        elif not program.has_rule(label) or program.rule(label) != other.rule(label):
            found.append(("rule", other.rule(label)))
    worths = row_worths(store)
    other_worths = row_worths(other_store)
    for fact in sorted(set(list(worths) + list(other_worths))):
        if fact not in other_worths:
            found.append(("clear", *fact))
        elif fact not in worths or worths[fact] != other_worths[fact]:
            found.append(("tell", *fact, other_worths[fact]))
    return found


def touched(program, store, deed):
    """The list of the facts that a deed touches, in the order of ruled_facts."""
    led = edited(program, store, deed)
    ahead, behind, others = _weighed_around((program, store), led, deed)
    weights, led_weights = dict(ahead), dict(behind)
    uses = [*weights, *led_weights]
    heads = [use[2] for use in uses if weights.get(use) != led_weights.get(use)]
    found = _facts_above(heads, uses + [use for use, _ in others]) if heads else {}
    return [fact for fact in ruled_facts(program, store) if fact in found]


def changed(program, store, deed):
    """The list of the tuples (fact, ahead, behind) of the facts whose settled worths the deed changes."""
    need_fit(program, store)
    need_steady(program.scale)
    led = edited(program, store, deed)
    ahead, behind, others = _weighed_around((program, store), led, deed)
    if ahead == behind:
        return []
    worths = settled_worths(program.scale, others + ahead)
    led_worths = settled_worths(program.scale, others + behind)
    nought = program.scale.nought
    pairs = [(fact, worths.get(fact, nought), led_worths.get(fact, nought)) for fact in ruled_facts(program, store)]
    return [(fact, before, after) for fact, before, after in pairs if before != after]


def kept_lines(program, store, lines):
    """The list of the lines, any values, that can be kept, with their children numbered anew."""
    need_fit(program, store)
    keeping = Keeping(program, store)
    for line in lines:
        told = keeping.look(line)
        if told is None:
            keeping.leave()
        else:
            keeping.keep(told)
    return keeping.lines()


def kept_on(program, store, paper):
    """A paper that is let by, which begins with those lines of the paper that can be kept and climb."""
    need_fit(program, store)
    need_steady(program.scale)
    need_paper(program, store, paper)
    weighed = weighed_uses(program, store)
    whole = whole_by(ruled_facts(program, store), weights_by(weighed), paper[0])
    among = {fact: True for fact in whole}
    growing = Growing(program.scale, whole)
    keeping = Keeping(program, store)
    for handed in paper[1]:
        told = keeping.look(handed)
        if told is None or told[1] not in among or not growing.climbs(told[1], told[2]):
            keeping.leave()
        else:
            keeping.keep(told)
            growing.put(told[1], told[0], told[2])
    growing.grow([(use, weight) for use, weight in weighed if use[2] in among])
    return (tuple(whole), growing.lines())


def _spoken_labels(program, deed):
    """The list of the labels of the rules whose uses, or the worths of these, a deed can change."""
    if deed[0] == "rule":
        return [label for label in program.labels() if label == deed[1][0]]
    if deed[0] == "unrule":
        return [label for label in program.labels() if label == deed[1]]
    return [label for label, _, body, _, _ in program.rules() if deed[1] in [atom[0] for atom in body]]


def _weighed_around(state, led_state, deed):
    """Lists of pairs of a use and its worth: those that a deed can change, ahead and behind, and all others."""
    program, store = state
    led_program, led_store = led_state
    labels = _spoken_labels(program, deed)
    left = [label for label in program.labels() if label not in labels]
    return (
        weighed_uses_for(program, store, labels),
        weighed_uses_for(led_program, led_store, _spoken_labels(led_program, deed)),
        weighed_uses_for(program, store, left),
    )


def _facts_above(heads, uses):
    """A dict that has these heads, and the head of each use one of whose ruled facts it has."""
    above = {}
    for use in uses:
        for fact in use[4]:
            above.setdefault(fact, {})[use[2]] = True
    found = {head: True for head in heads}
    waiting = list(found)
    while waiting:
        further = [head for head in above.get(waiting.pop(), {}) if head not in found]
        found.update({head: True for head in further})
        waiting.extend(further)
    return found

"""Papers that are made, gone on with, thinned, joined and cut (points S4.5 and S4.6)."""

from worthhouse.asking import whole_by
from worthhouse.errors import UnknownFact
from worthhouse.growing import Growing
from worthhouse.judging import need_let_by, need_lines, need_paper
from worthhouse.lines import right_uses, worths_of_lines
from worthhouse.resting import need_steady
from worthhouse.rounds import is_ruled_fact, need_ruled_facts, ruled_facts, weights_by, weights_of
from worthhouse.rules import need_fit
from worthhouse.uses import weighed_uses


def paper_of(program, store, facts):
    """A paper that is let by for the least whole set with these facts."""
    need_fit(program, store)
    need_steady(program.scale)
    need_ruled_facts(program, store, facts)
    return _grown_paper(program, store, facts, (), [])


def gone_on(program, store, paper):
    """A paper that is let by, whose lines begin with those of the paper; each further one climbs."""
    need_fit(program, store)
    need_steady(program.scale)
    need_paper(program, store, paper)
    uses = need_lines(program, store, paper)
    return _grown_paper(program, store, paper[0], paper[1], uses)


def thinned(program, store, paper):
    """A paper that is let by, with some of the lines, none of which can go."""
    need_fit(program, store)
    need_steady(program.scale)
    need_let_by(program, store, paper, weights_of(program, store))
    facts, lines = paper
    return (facts, _chosen_lines(lines, _needed_numbers(program, store, lines)))


def joined(program, store, paper, other):
    """The paper with the facts and the lines of both; a line of the other one whose tree is there stands once."""
    need_fit(program, store)
    need_steady(program.scale)
    weights = weights_of(program, store)
    need_let_by(program, store, paper, weights)
    need_let_by(program, store, other, weights)
    facts = {fact: True for fact in paper[0] + other[0]}
    # Children are numbered by trees, so lines that are the same are those for the same tree.
    numbers = {line: number for number, line in enumerate(paper[1])}
    led = []
    for label, things, children in other[1]:
        line = (label, things, tuple([led[child] for child in children]))
        led.append(numbers.setdefault(line, len(numbers)))
    return (tuple(facts), tuple(numbers))


def cut(program, store, paper, facts):
    """The paper for the least whole set with these facts alone."""
    every = ruled_facts(program, store)
    need_steady(program.scale)
    weights = weights_of(program, store)
    need_let_by(program, store, paper, weights)
    for fact in facts:
        if not is_ruled_fact(program, store, fact) or fact not in paper[0]:
            raise UnknownFact(fact)
    whole = whole_by(every, weights, facts)
    heads = [use[2] for use in right_uses(program, store, paper[1])]
    return (tuple(whole), _chosen_lines(paper[1], [number for number, head in enumerate(heads) if head in whole]))


def _grown_paper(program, store, facts, lines, uses):
    """The paper for the whole set of the facts that these right lines, by these uses, grow to."""
    weighed = weighed_uses(program, store)
    whole = whole_by(ruled_facts(program, store), weights_by(weighed), facts)
    growing = Growing(program.scale, whole)
    for line, use, worth in zip(lines, uses, worths_of_lines(program, store, lines, uses)):
        growing.put(use[2], line, worth)
    among = {fact: True for fact in whole}
    growing.grow([(use, weight) for use, weight in weighed if use[2] in among])
    return (tuple(whole), growing.lines())


def _chosen_lines(lines, numbers):
    """The lines with these ascending numbers, with their children numbered anew."""
    places = {number: place for place, number in enumerate(numbers)}
    chosen = [lines[number] for number in numbers]
    return tuple([(label, things, tuple([places[child] for child in children])) for label, things, children in chosen])


def _needed_numbers(program, store, lines):
    """The numbers of the lines that stay if, from the last one on, each goes that can.

    A line that cannot go can do so still less when others have gone. So each one is
    looked at once.
    """
    uses = right_uses(program, store, lines)
    worths = worths_of_lines(program, store, lines, uses)
    by_head = {}
    for number, use in enumerate(uses):
        by_head.setdefault(use[2], []).append(number)
    kept = {number: True for number in range(len(lines))}
    for number in reversed(range(len(lines))):
        gone = _resting_on(lines, kept, number)
        heads = {uses[one][2]: True for one in gone}
        if all([_keeps_sum(program.scale, worths, by_head[head], kept, gone) for head in heads]):
            kept = {one: True for one in kept if one not in gone}
    return list(kept)


def _resting_on(lines, kept, number):
    """A dict of the kept lines that rest on this one, itself among them; empty if it is not kept."""
    gone = {number: True} if number in kept else {}
    for later in range(number + 1, len(lines)):
        if later in kept and any([child in gone for child in lines[later][2]]):
            gone[later] = True
    return gone


def _keeps_sum(scale, worths, numbers, kept, gone):
    """Whether the sum of the kept ones of these lines stays the same without those that go."""
    before = [worths[number] for number in numbers if number in kept]
    behind = [worths[number] for number in numbers if number in kept and number not in gone]
    return scale.total(before) == scale.total(behind)

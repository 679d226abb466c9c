"""The judge of papers: it goes through the lines once, and does one round (points S4.3 and S4.4)."""

from worthhouse.errors import BadPaper, NoLine
from worthhouse.lines import number_of_wrong, right_uses, worths_of_lines
from worthhouse.resting import need_steady, within
from worthhouse.rounds import is_ruled_fact, led_on, weights_of
from worthhouse.rules import need_fit


def sums_of(program, store, paper):
    """The dict from just the paper's facts to the sums of the worths of the lines for them."""
    need_fit(program, store)
    need_paper(program, store, paper)
    uses = need_lines(program, store, paper)
    return sums_by(program, store, paper, uses)


def judge_paper(program, store, paper):
    """What is first wrong about the paper, None if it is let by."""
    need_fit(program, store)
    need_paper(program, store, paper)
    need_steady(program.scale)
    return _first_flaw(program, store, paper, weights_of(program, store))


def need_paper(program, store, paper):
    """Raises BadPaper unless the paper, any value, has the form of one."""
    if not _is_paper(program, store, paper):
        raise BadPaper()


def need_lines(program, store, paper):
    """The uses of the lines; raises NoLine for the first one that is not right or is for none of the facts."""
    facts, lines = paper
    uses = right_uses(program, store, lines)
    stray = _first_stray(facts, uses)
    if stray is not None:
        raise NoLine(stray)
    if len(uses) < len(lines):
        raise NoLine(len(uses))
    return uses


def need_let_by(program, store, paper, weights):
    """Raises BadPaper unless the paper, any value, is let by; the scale is steady."""
    need_paper(program, store, paper)
    if _first_flaw(program, store, paper, weights) is not None:
        raise BadPaper()


def sums_by(program, store, paper, uses):
    """The sums of the facts, by the uses of the lines, all of which are right and for the facts."""
    facts, lines = paper
    parts = {fact: [] for fact in facts}
    for use, worth in zip(uses, worths_of_lines(program, store, lines, uses)):
        parts[use[2]].append(worth)
    return {fact: program.scale.total(parts[fact]) for fact in facts}


def _is_paper(program, store, value):
    if not isinstance(value, tuple) or len(value) != 2:
        return False
    facts, lines = value
    if not isinstance(facts, tuple) or not isinstance(lines, tuple):
        return False
    if not all([is_ruled_fact(program, store, fact) for fact in facts]):
        return False
    return len(set(facts)) == len(facts)


def _first_flaw(program, store, paper, weights):
    facts, lines = paper
    uses = right_uses(program, store, lines)
    wrong = number_of_wrong(uses, lines)
    if wrong is not None:
        return ("line", wrong)
    among = {fact: True for fact in facts}
    own = [weight for weight in weights if weight[0] in among]
    for _, _, ruled in own:
        for fact in ruled:
            if fact not in among:
                return ("loose", fact)
    stray = _first_stray(facts, uses)
    if stray is not None:
        return ("stray", stray)
    sums = sums_by(program, store, paper, uses)
    led = led_on(program.scale, own, facts, sums)
    for fact in facts:
        if not within(program.scale, led[fact], sums[fact]):
            return ("open", fact)
    return None


def _first_stray(facts, uses):
    """The number of the first line for none of the facts, by the uses of the lines; None if there is none."""
    among = {fact: True for fact in facts}
    for number, use in enumerate(uses):
        if use[2] not in among:
            return number
    return None

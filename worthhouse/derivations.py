"""Bounds for the rows of a told table in the grounds of a question's terms (point S5.5).

Inside this file a bound is a number from 0 to MANY, or None.
"""

from worthhouse.grades import need_told
from worthhouse.groundforms import MANY, best_grounds, many_word, nodes_of
from worthhouse.words import is_number


def grade_bounds(frame, scale, question, name):
    """Bounds that hold, with which the question's term has its grade."""
    need_told(frame, scale, question, name)
    nodes, named = nodes_of(question)
    few, _ = best_grounds(nodes, named, name, False)
    most, _ = best_grounds(nodes, named, name, True)
    # Where there is no ground, each number is a right low, and None a right high.
    return {
        called: ("many", None) if few[called] is None else (many_word(few[called][0]), many_word(most[called][0]))
        for called in few
    }


def are_bounds(frame, scale, question, name, value):
    """Whether the value, any one, is a dict of bounds that hold."""
    need_told(frame, scale, question, name)
    nodes, named = nodes_of(question)
    if not isinstance(value, dict) or len(value) != len(named):
        return False
    if not all([called in value and _are_low_and_high(value[called]) for called in named]):
        return False
    numbers = _as_numbers(value)
    pairs = _pairs_by(nodes, numbers, name)
    return all([_holds(numbers[called], pairs[named[called]]) for called in named])


def bounded(frame, scale, question, name, bounds):
    """The pair (low, high) of the question's term with bounds that hold."""
    need_told(frame, scale, question, name)
    nodes, _ = nodes_of(question)
    low, high = _pairs_by(nodes, _as_numbers(bounds), name)[-1]
    return (many_word(low), many_word(high))


def _are_low_and_high(value):
    if not isinstance(value, tuple) or len(value) != 2:
        return False
    return _is_low(value[0]) and (value[1] is None or _is_low(value[1]))


def _is_low(value):
    if isinstance(value, str):
        return value == "many"
    return is_number(value) and 0 <= value < MANY


def _as_numbers(bounds):
    """The bounds with numbers for all words."""
    return {called: tuple([MANY if bound == "many" else bound for bound in bounds[called]]) for called in bounds}


def _pairs_by(nodes, numbers, name):
    """The pair (low, high) of each node, by those of the names R."""
    pairs = []
    for term, parts in nodes:
        word = term[0]
        if word == "table":
            pair = (1, 1) if term[1] == name else (0, 0)
        elif word == "worth":
            pair = (0, 0)
        elif word == "call":
            pair = numbers[term[1]]
        elif word == "both":
            pair = _either(pairs[parts[0]], pairs[parts[1]])
        elif word == "with":
            pair = _together_bounds(pairs[parts[0]], pairs[parts[1]])
        else:
            # Over and where have one part; of a let and a least it is t that counts.
            pair = pairs[parts[-1]]
        pairs.append(pair)
    return pairs


def _either(first, second):
    return (min(first[0], second[0]), second[1] if _is_at_most(first[1], second[1]) else first[1])


def _together_bounds(first, second):
    if first[1] is None or second[1] is None:
        high = None
    else:
        high = min(first[1] + second[1], MANY)
    return (min(first[0] + second[0], MANY), high)


def _is_at_most(high, other):
    """Whether a high is at most another one; None is below all numbers."""
    return high is None or (other is not None and high <= other)


def _holds(pair, found):
    """Whether the bounds of an R hold beside the pair of its s."""
    return pair[0] <= found[0] and _is_at_most(found[1], pair[1])

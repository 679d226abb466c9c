"""Grounds of the terms of a question, and the best ones among them (point S5.4).

For this a question is held as its nodes: the list of the pairs of a term and the list
of the numbers of its parts' nodes, each node behind those of its parts; and as a dict
from the names R to the numbers of the nodes of their s.
"""

from worthhouse.questionforms import BEHIND, going, names_table, parts_of

# Numbers of rows from here on are not told from one another.
MANY = 4


def many_word(number):
    """The number as grades and bounds tell it."""
    return "many" if number == MANY else number


def nodes_of(question):
    """The nodes of a question, and the dict of its names R."""
    nodes = []
    named = {}
    waiting = []
    for moment, _, term in going(question[1]):
        if moment == BEHIND:
            start = len(waiting) - len(parts_of(term))
            parts = waiting[start:]
            if names_table(term):
                named[term[1]] = parts[0]
            del waiting[start:]
            waiting.append(len(nodes))
            nodes.append((term, parts))
    return nodes, named


def best_grounds(nodes, named, name, is_most):
    """The pairs (number of rows of the table, ground) with the greatest, or the least, number that there is.

    A dict of them for the s of each R, and that of the question's term; a number above
    3 is MANY, and None stands where there is no ground.
    """
    best = {called: None for called in named}
    while True:
        found = _pairs_of(nodes, best, name, is_most)
        further = {called: _better(best[called], found[named[called]], is_most) for called in named}
        if all([_number(further[called]) == _number(best[called]) for called in named]):
            return best, found[-1]
        best = further


def is_ground_of(question, value):
    """Whether the value, any one, is a ground of the question's term."""
    nodes, named = nodes_of(question)
    waiting = [(len(nodes) - 1, value)]
    while waiting:
        number, ground = waiting.pop()
        parts = _parts_of_ground(nodes[number], named, ground)
        if parts is None:
            return False
        waiting.extend(parts)
    return True


def _pairs_of(nodes, best, name, is_most):
    """The best pair of each node, by those of the names R."""
    pairs = []
    for term, parts in nodes:
        word = term[0]
        if word == "table":
            pair = (1 if term[1] == name else 0, ("row", term[1]))
        elif word == "worth":
            pair = (0, ("one",))
        elif word == "call":
            pair = _wrapped("call", term[1], best[term[1]])
        elif word == "both":
            pair = _better(_sided("left", pairs[parts[0]]), _sided("right", pairs[parts[1]]), is_most)
        elif word == "with":
            pair = _together(pairs[parts[0]], pairs[parts[1]])
        else:
            # Over and where have one part; of a let and a least it is t that counts.
            pair = pairs[parts[-1]]
        pairs.append(pair)
    return pairs


def _wrapped(word, called, pair):
    return None if pair is None else (pair[0], (word, called, pair[1]))


def _sided(word, pair):
    return None if pair is None else (pair[0], (word, pair[1]))


def _together(first, second):
    if first is None or second is None:
        return None
    return (min(first[0] + second[0], MANY), ("with", first[1], second[1]))


def _better(first, second, is_most):
    """The better one of two pairs, the first one if they are as good; None is worse than all pairs."""
    if first is None or second is None:
        return second if first is None else first
    is_second = second[0] > first[0] if is_most else second[0] < first[0]
    return second if is_second else first


def _number(pair):
    return None if pair is None else pair[0]


def _parts_of_ground(node, named, value):
    """The pairs of a node's number and a value that must be a ground of it, for the value to be one of this node.

    None if the value cannot be one.
    """
    term, parts = node
    word = term[0]
    if word in ("over", "where", "let", "least"):
        return [(parts[-1], value)]
    if not isinstance(value, tuple) or not value:
        return None
    if word == "table":
        return [] if value == ("row", term[1]) else None
    if word == "worth":
        return [] if value == ("one",) else None
    if word == "call":
        return [(named[term[1]], value[2])] if len(value) == 3 and value[:2] == ("call", term[1]) else None
    if word == "with":
        return [(parts[0], value[1]), (parts[1], value[2])] if len(value) == 3 and value[0] == "with" else None
    if len(value) != 2 or value[0] not in ("left", "right"):
        return None
    return [(parts[0] if value[0] == "left" else parts[1], value[1])]

"""The forms of questions and terms (point S5.1), and the way in which one goes through terms."""

from worthhouse.ruleforms import is_place, is_test
from worthhouse.words import is_word

LENGTHS = {"table": 3, "both": 3, "with": 3, "over": 3, "where": 3, "worth": 2, "let": 5, "least": 5, "call": 3}
# At which places of a term its parts stand.
PARTS = {
    "table": (), "both": (1, 2), "with": (1, 2), "over": (2,), "where": (2,),
    "worth": (), "let": (3, 4), "least": (3, 4), "call": (),
}
AHEAD = 0
BETWEEN = 1
BEHIND = 2


def is_question(value):
    """Whether the value, any one, is a pair of a tuple of words and something."""
    if not isinstance(value, tuple) or len(value) != 2 or not isinstance(value[0], tuple):
        return False
    return all([is_word(variable) for variable in value[0]])


def is_term(value):
    """Whether the value, any one, has the form of a term, whatever its parts are."""
    if not isinstance(value, tuple) or not value or not isinstance(value[0], str):
        return False
    word = value[0]
    if word not in LENGTHS or len(value) != LENGTHS[word]:
        return False
    if word in ("table", "call"):
        return is_word(value[1]) and _are_places(value[2])
    if word in ("let", "least"):
        return is_word(value[1]) and _are_columns(value[2])
    if word == "over":
        return is_word(value[1])
    if word == "where":
        return is_test(value[1])
    return word in ("both", "with") or isinstance(value[1], str)


def parts_of(term):
    """The list of the parts of a term: s, then t."""
    return [term[place] for place in PARTS[term[0]]]


def names_table(term):
    """Whether the term is a let or a least, which names a table R."""
    return term[0] in ("let", "least")


def first_unformed(term):
    """The place of the first term, each ahead of its parts, that has not the form of one; None if all have."""
    waiting = [((), term)]
    while waiting:
        place, value = waiting.pop()
        if not is_term(value):
            return place
        waiting.extend(_placed_parts(place, value)[::-1])
    return None


def going(term):
    """The list of (moment, place, term) of the going through a term and all that stand in it.

    Each one is met ahead of its parts and behind them; one with two parts between them, too.
    """
    found = []
    waiting = [(AHEAD, (), term)]
    while waiting:
        moment, place, met_term = waiting.pop()
        found.append((moment, place, met_term))
        if moment == AHEAD:
            parts = [(AHEAD, where, part) for where, part in _placed_parts(place, met_term)]
            if len(parts) == 2:
                parts.insert(1, (BETWEEN, place, met_term))
            waiting.append((BEHIND, place, met_term))
            waiting.extend(parts[::-1])
    return found


def _placed_parts(place, term):
    """The list of the pairs of a part's place and the part."""
    return [(place + (step,), part) for step, part in enumerate(parts_of(term))]


def _are_places(value):
    return isinstance(value, tuple) and all([is_place(place) for place in value])


def _are_columns(value):
    return isinstance(value, tuple) and all([_is_column(pair) for pair in value])


def _is_column(value):
    return isinstance(value, tuple) and len(value) == 2 and is_word(value[0]) and is_word(value[1])

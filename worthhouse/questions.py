"""Questions: checked, and asked for their names, things and terms (points S5.1 to S5.3)."""

from worthhouse.errors import BadQuestion
from worthhouse.questionforms import AHEAD, BEHIND, going, names_table, parts_of
from worthhouse.questionkinds import checked
from worthhouse.ruleforms import names_thing
from worthhouse.words import is_number


def check_question(frame, scale, question):
    """Returns None if the question, any value, is right."""
    checked(frame, scale, question)


def names_of(question):
    """The list of the names R, each let and least ahead of its parts."""
    return [term[1] for moment, _, term in going(question[1]) if moment == AHEAD and names_table(term)]


def things_of_question(question):
    """The list of the things that a question names, in the order in which they first stand in its text."""
    found = {}
    for moment, _, term in going(question[1]):
        if moment == BEHIND:
            found.update({place[1:]: True for place in _places_in(term) if names_thing(place)})
    return list(found)


def term_at(question, place):
    """The term at a place, any value."""
    if not isinstance(place, tuple):
        raise BadQuestion(place, "form")
    term = question[1]
    for step in place:
        parts = parts_of(term)
        if not is_number(step) or not 0 <= step < len(parts):
            raise BadQuestion(place, "form")
        term = parts[step]
    return term


def _places_in(term):
    """The places that the term itself tells."""
    if term[0] in ("table", "call"):
        return term[2]
    if term[0] == "where":
        return term[1][1:]
    return ()

"""The columns of questions and of their terms (points S5.1 and S5.2)."""

from worthhouse.questionkinds import checked
from worthhouse.questions import term_at


def columns_of(frame, scale, question):
    """The list of the pairs of a variable and its kind, in the order of the question's variables."""
    return checked(frame, scale, question).columns_in_order(question[0])


def columns_at(frame, scale, question, place):
    """The list of the pairs of a column of the term at a place and its kind, in ascending order."""
    checking = checked(frame, scale, question)
    term_at(question, place)
    return list(checking.columns_at_place(place).items())

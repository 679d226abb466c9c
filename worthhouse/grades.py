"""Grades of told tables in questions, and grounds (points S5.4 and S5.5)."""

from worthhouse.errors import NotTold
from worthhouse.groundforms import best_grounds, is_ground_of, many_word, nodes_of
from worthhouse.questionkinds import checked


def grade(frame, scale, question, name):
    """The least and the greatest number of rows of a told table in grounds of the question's term."""
    need_told(frame, scale, question, name)
    nodes, named = nodes_of(question)
    return _grade(nodes, named, name)


def grades(frame, scale, question):
    """A dict from the names of all told tables to their grades."""
    checked(frame, scale, question)
    nodes, named = nodes_of(question)
    return {name: _grade(nodes, named, name) for name, _ in frame.told()}


def few_ground(frame, scale, question, name):
    """A ground with as few rows of the table as its grade tells, None if there is none."""
    need_told(frame, scale, question, name)
    return _best_ground(question, name, False)


def most_ground(frame, scale, question, name):
    """A ground with as many rows of the table as its grade tells, None if there is none."""
    need_told(frame, scale, question, name)
    return _best_ground(question, name, True)


def is_ground(frame, scale, question, value):
    """Whether the value, any one, is a ground of the question's term."""
    checked(frame, scale, question)
    return is_ground_of(question, value)


def rows_in(ground):
    """A dict from the names of the tables that have rows in a ground to their numbers."""
    found = {}
    waiting = [ground]
    while waiting:
        part = waiting.pop()
        if part[0] == "row":
            found[part[1]] = found.get(part[1], 0) + 1
        elif part[0] == "call":
            waiting.append(part[2])
        else:
            waiting.extend(part[1:])
    return found


def need_told(frame, scale, question, name):
    """Raises BadQuestion unless the question is right, then NotTold unless the frame has a told table of this name."""
    checked(frame, scale, question)
    if not frame.has_told(name):
        raise NotTold(name)


def _grade(nodes, named, name):
    _, few = best_grounds(nodes, named, name, False)
    _, most = best_grounds(nodes, named, name, True)
    if few is None:
        return ("many", 0)
    return (many_word(few[0]), many_word(most[0]))


def _best_ground(question, name, is_most):
    nodes, named = nodes_of(question)
    _, best = best_grounds(nodes, named, name, is_most)
    return None if best is None else best[1]

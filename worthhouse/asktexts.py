"""Texts of questions (point S5.7)."""

from worthhouse.questionforms import AHEAD, BEHIND, going
from worthhouse.reading import RowReader
from worthhouse.texts import atom_text, read_place, read_places, read_test_on, test_text

SIGNS_BETWEEN = {"both": " + ", "with": " & ", "let": " in ", "least": " in "}


def write_question(question):
    """The text of a question that is right by its forms."""
    variables, term = question
    texts = [_text_at(moment, met_term) for moment, _, met_term in going(term)]
    return "".join(["ask"] + [" " + variable for variable in variables] + [": "] + texts)


def read_question(text):
    """The question of a text."""
    reader = RowReader(0, text)
    reader.skip("ask")
    variables = []
    while reader.sign() == " ":
        reader.skip(" ")
        variables.append(reader.take_word())
    reader.skip(": ")
    term = _read_term(reader)
    reader.end()
    return (tuple(variables), term)


def _text_at(moment, term):
    """What a term writes at a moment of the going."""
    if moment == AHEAD:
        return _text_ahead(term)
    if moment == BEHIND:
        return _text_behind(term)
    return SIGNS_BETWEEN[term[0]]


def _text_ahead(term):
    """What a term writes ahead of its parts."""
    word = term[0]
    if word == "table":
        return atom_text(term[1:])
    if word == "call":
        return "$" + atom_text(term[1:])
    if word == "worth":
        return "#" + term[1]
    if word == "over":
        return f"sum {term[1]} "
    if word in ("let", "least"):
        columns = ", ".join([f"{variable} of {kind}" for variable, kind in term[2]])
        return f"{word} {term[1]}({columns}) be "
    return "("


def _text_behind(term):
    """What a term writes behind its parts."""
    if term[0] in ("both", "with"):
        return ")"
    if term[0] == "where":
        return f" if {test_text(term[1])})"
    return ""


def _read_term(reader):
    """A term with all its parts.

    What has been read of a term whose parts are not all read yet is a list; those that
    are begun, each within the one ahead of it, wait for the term that is whole next.
    """
    begun = []
    while True:
        met_term = _read_beginning(reader)
        while isinstance(met_term, tuple):
            if not begun:
                return met_term
            met_term = _read_on(reader, begun.pop(), met_term)
        begun.append(met_term)


def _read_beginning(reader):
    """A whole term without parts, or the list of what stands ahead of a term's first part."""
    sign = reader.sign()
    if sign == "(":
        reader.skip("(")
        return [sign]
    if sign == "#":
        reader.skip("#")
        return ("worth", reader.take_worth())
    if sign == "$":
        reader.skip("$")
        return ("call", reader.take_word(), read_places(reader, read_place))
    word = reader.take_word()
    if reader.sign() != " " or word not in ("sum", "let", "least"):
        return ("table", word, read_places(reader, read_place))
    reader.skip(" ")
    name = reader.take_word()
    if word == "sum":
        reader.skip(" ")
        return ["over", name]
    columns = _read_columns(reader)
    reader.skip(" be ")
    return [word, name, columns]


def _read_on(reader, begun, part):
    """What is known of a begun term behind a further part of it: a tuple if it is whole, else a list."""
    word = begun[0]
    if word == "(":
        return _read_sign(reader, part)
    if word in ("both", "with"):
        reader.skip(")")
        return (*begun, part)
    if word == "over" or len(begun) == 4:
        return (*begun, part)
    reader.skip(SIGNS_BETWEEN[word])
    return [*begun, part]


def _read_sign(reader, part):
    """What is known of a term in brackets behind its first part."""
    reader.skip(" ")
    if reader.sign() == "+":
        reader.skip("+ ")
        return ["both", part]
    if reader.sign() == "&":
        reader.skip("& ")
        return ["with", part]
    reader.skip("if ")
    test = read_test_on(reader, read_place(reader))
    reader.skip(")")
    return ("where", test, part)


def _read_columns(reader):
    """The columns of a let or a least."""
    reader.skip("(")
    columns = []
    while reader.sign() != ")":
        if columns:
            reader.skip(", ")
        variable = reader.take_word()
        reader.skip(" of ")
        columns.append((variable, reader.take_word()))
    reader.skip(")")
    return tuple(columns)

"""Texts of programs and stores (points S2.7 and S2.8)."""

from worthhouse.errors import BadName
from worthhouse.reading import RowReader
from worthhouse.rules import Program
from worthhouse.stores import Store
from worthhouse.words import is_word


def write_program(program):
    """The text of a program."""
    return "\n".join([rule_text(rule) for rule in program.rules()])


def read_program(frame, scale, text):
    """The program of a text."""
    return Program(frame, scale, [read_rule(RowReader(number, row)) for number, row in _numbered_rows(text)])


def write_store(store):
    """The text of a store."""
    things = [f"{thing} of {kind}" for thing, kind in store.things()]
    return "\n".join(things + [row_text(row) for row in store.rows()])


def read_store(frame, scale, text):
    """The store of a text."""
    things = []
    rows = []
    for number, row in _numbered_rows(text):
        part = read_store_row(RowReader(number, row), not rows)
        if len(part) == 2:
            things.append(part)
        else:
            rows.append(part)
    return Store(frame, scale, things, rows)


def rule_text(rule):
    """The row of a rule."""
    label, head, body, tests, worth = rule
    start = f"{_plain(label)}: {atom_text(head)}"
    items = [atom_text(atom) for atom in body] + [test_text(test) for test in tests]
    if items:
        start = start + " :- " + ", ".join(items)
    return f"{start} * {worth}"


def row_text(row):
    """The row of a row of a store."""
    name, things, worth = row
    return f"{atom_text((name, things))} = {worth}"


def _plain(name):
    """The name, unless it is a made one: texts have none."""
    if not is_word(name):
        raise BadName(name)
    return name


def atom_text(atom):
    """The text of an atom, and of a fact likewise."""
    name, places = atom
    return _plain(name) + "(" + " ".join(places) + ")"


def test_text(test):
    """The text of a test."""
    word, one, other = test
    sign = "=" if word == "same" else "!="
    return f"{one} {sign} {other}"


def _numbered_rows(text):
    """The pairs of a row's number and the row; the empty text has none."""
    if text == "":
        return []
    return list(enumerate(text.split("\n")))


def read_rule(reader):
    """A rule, up to the end of the row."""
    label = reader.take_word()
    reader.skip(": ")
    head = (reader.take_word(), read_places(reader, read_place))
    reader.skip(" ")
    items = []
    if reader.sign() == ":":
        reader.skip(":- ")
        items = _read_items(reader)
        reader.skip(" ")
    reader.skip("* ")
    worth = reader.take_worth()
    reader.end()
    return (label, head, _of_length(items, 2), _of_length(items, 3), worth)


def _of_length(items, many):
    """The tuple of the items with so many parts: atoms have two, tests have three."""
    return tuple([item for item in items if len(item) == many])


def _read_items(reader):
    """The list of the atoms and, behind them, the tests of a row."""
    items = [_read_item(reader, True)]
    while reader.sign() == ",":
        reader.skip(", ")
        items.append(_read_item(reader, len(items[-1]) == 2))
    return items


def _read_item(reader, can_be_atom):
    """An atom or a test; behind a test there are no atoms any more."""
    first = read_place(reader)
    if reader.sign() == "(" and can_be_atom and is_word(first):
        return (first, read_places(reader, read_place))
    return read_test_on(reader, first)


def read_test_on(reader, first):
    """A test whose first place has been read."""
    reader.skip(" ")
    if reader.sign() == "!":
        reader.skip("!= ")
        return ("unlike", first, read_place(reader))
    reader.skip("= ")
    return ("same", first, read_place(reader))


def read_place(reader):
    """A variable, or the sign "@" and a thing."""
    if reader.sign() == "@":
        reader.skip("@")
        return "@" + reader.take_word()
    return reader.take_word()


def read_places(reader, read_one):
    """What stands in brackets, with single blanks between."""
    reader.skip("(")
    places = []
    if reader.sign() != ")":
        places.append(read_one(reader))
        while reader.sign() == " ":
            reader.skip(" ")
            places.append(read_one(reader))
    reader.skip(")")
    return tuple(places)


def read_fact(reader):
    """A fact."""
    return (reader.take_word(), read_places(reader, _read_thing))


def read_row(reader):
    """A row of a store, up to the end of the row."""
    name, things = read_fact(reader)
    return _read_row_on(reader, name, things)


def read_store_row(reader, can_be_thing):
    """A thing and its kind, or a row of the store; behind a row there are no things any more."""
    word = reader.take_word()
    if reader.sign() == " " and can_be_thing:
        reader.skip(" of ")
        kind = reader.take_word()
        reader.end()
        return (word, kind)
    return _read_row_on(reader, word, read_places(reader, _read_thing))


def _read_row_on(reader, name, things):
    """A row of which all but the worth has been read."""
    reader.skip(" = ")
    worth = reader.take_worth()
    reader.end()
    return (name, things, worth)


def _read_thing(reader):
    return reader.take_word()

"""Texts of houses (points S10.5 and S10.6)."""

from worthhouse.errors import BadText
from worthhouse.housereading import HouseReading, rows_stand
from worthhouse.texts import atom_text, row_text, rule_text, write_program, write_store


def write_house(house):
    """The text of a house."""
    program, store = house.state(0)
    parts = [text for text in (write_store(store), write_program(program)) if text != ""]
    steps = [f"{number} {elder} {_deed_text(deed)}" for number, (elder, deed) in enumerate(house.log(), 1)]
    branches = [_branch_text(house, name) for name in house.branches()]
    watched = [f"watch {atom_text(fact)}" for fact in house.watched()]
    return "\n".join([*parts, *steps, *branches, f"here {house.here()}", *watched])


def read_house(frame, scale, text):
    """The house of a text."""
    rows = text.split("\n")
    reading = HouseReading(frame, scale)
    many = rows_stand(reading, rows)
    if many < len(rows) or not reading.is_whole():
        raise BadText((many, 0))
    return reading.house()


def _deed_text(deed):
    word = deed[0]
    if word in ("tell", "raise"):
        return f"{word} {row_text(deed[1:])}"
    if word == "clear":
        return f"{word} {atom_text(deed[1:])}"
    if word == "rule":
        return f"{word} {rule_text(deed[1])}"
    return f"{word} {deed[1]}"


def _branch_text(house, name):
    numbers = " ".join([str(number) for number in [house.mark(name), *house.trail(name)]])
    return f"branch {name} {numbers}"

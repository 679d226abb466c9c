"""Texts of houses looked at once more: each beginning of the rows is looked at by itself, sort by sort."""

import re

from tests.plainhouse import PlainHouse, plain_merged
from worthhouse.edits import edited
from worthhouse.errors import NameMissing, WorthhouseError
from worthhouse.resting import steady
from worthhouse.rounds import ruled_facts
from worthhouse.rules import need_fit
from worthhouse.texts import read_program, read_store

W = "[a-z][a-z0-9]{0,11}"
# No number can be longer.
NUM = "(?:0|[1-9][0-9]{0,3})"
FACT = rf"{W}\((?:{W}(?: {W})*)?\)"
ROW = rf"{FACT} = [a-z0-9/]+"
PLACE = f"@?{W}"
ATOM = rf"{W}\((?:{PLACE}(?: {PLACE})*)?\)"
TEST = rf"{PLACE} !?= {PLACE}"
BODY = rf"(?:{ATOM}(?:, {ATOM})*(?:, {TEST})*|{TEST}(?:, {TEST})*)"
RULE = rf"{W}: {ATOM}(?: :- {BODY})? \* [a-z0-9/]+"
DEED = rf"(?:(?:tell|raise) {ROW}|clear {FACT}|rule {RULE}|unrule {W}|merge {NUM})"
SORTS = [
    rf"{W} of {W}", ROW, RULE, rf"{NUM} {NUM} {DEED}", rf"branch {W} {NUM}(?: {NUM})+", rf"here {W}", rf"watch {FACT}",
]


def sort_of(row):
    found = [k for k, form in enumerate(SORTS) if re.fullmatch(form, row)]
    assert len(found) < 2, row
    return found[0] if found else None


def fact_of_text(text):
    name, _, things = text.removesuffix(")").partition("(")
    return (name, tuple(things.split()))


def deed_of_text(frame, scale, text):
    word, _, rest = text.partition(" ")
    if word in ("tell", "raise"):
        fact, _, worth = rest.partition(" = ")
        return (word, *fact_of_text(fact), worth)
    if word == "clear":
        return (word, *fact_of_text(rest))
    if word == "rule":
        return (word, read_program(frame, scale, rest).rules()[0])
    return (word, int(rest) if word == "merge" else rest)


def is_beginning(frame, scale, rows):
    sorts = [sort_of(row) for row in rows]
    if None in sorts or sorts != sorted(sorts) or sorts.count(5) > 1 or (6 in sorts and 5 not in sorts):
        return False
    groups = [[row for row, sort in zip(rows, sorts) if sort == k] for k in range(7)]
    try:
        store = read_store(frame, scale, "\n".join(groups[0] + groups[1]))
        program = read_program(frame, scale, "\n".join(groups[2]))
        need_fit(program, store)
    except (WorthhouseError, NameMissing):
        return False
    if program.labels() != sorted(program.labels()) or store.rows() != sorted(store.rows()):
        return False
    plain = PlainHouse(program, store)
    return states_stand(plain, groups[3]) and branches_stand(plain, groups[4]) and ends_stand(plain, groups[4], groups[5], groups[6])


def states_stand(plain, rows):
    for row in rows:
        number, elder, deed = row.split(" ", 2)
        if int(number) != len(plain.states) or int(elder) >= len(plain.states) or len(plain.states) == 200:
            return False
        elder = int(elder)
        try:
            deed = deed_of_text(plain.frame, plain.scale, deed)
            if deed[0] == "merge":
                if deed[1] >= len(plain.states) or deed[1] in plain.elders(elder):
                    return False
                common = plain.last_common(elder, deed[1])
                spots, parts = plain_merged(plain.states[common], plain.states[elder], plain.states[deed[1]])
                if spots:
                    return False
            else:
                parts = plain.parts(*edited(*plain.state(elder), deed))
        except (WorthhouseError, NameMissing):
            return False
        plain.log.append((elder, deed))
        plain.states.append(parts)
    return True


def branches_stand(plain, rows):
    names = []
    for row in rows:
        _, name, place, *trail = row.split(" ")
        trail = [int(number) for number in trail]
        if name in names or len(names) == 6 or int(place) >= len(trail) or max(trail) >= len(plain.states):
            return False
        if not names and (name != "main" or trail[0] != 0):
            return False
        for before, number in zip(trail, trail[1:]):
            if number == 0 or plain.log[number - 1][0] != before:
                return False
        names.append(name)
    return True


def ends_stand(plain, branches, heres, watches):
    names = [row.split(" ")[1] for row in branches]
    facts = [fact_of_text(row.split(" ", 1)[1]) for row in watches]
    if any(row.split(" ")[1] not in names for row in heres) or len(set(facts)) < len(facts):
        return False
    known = ruled_facts(*plain.state(0))
    return all(fact in known for fact in facts) and (not facts or steady(plain.scale))


def plain_wrong_row(frame, scale, text):
    """The number of the first row that cannot stand, or of rows if the branch is missing; None if all is right."""
    rows = text.split("\n")
    for many in range(1, len(rows) + 1):
        if not is_beginning(frame, scale, rows[:many]):
            return many - 1
    return None if any(sort_of(row) == 5 for row in rows) else len(rows)

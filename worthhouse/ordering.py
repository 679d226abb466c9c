"""Programs and stores put in order: rules by their labels, rows by their facts (points S8.2 and S9.1)."""

from worthhouse.rules import made_program


def ordered_program(program):
    """The program with its rules in ascending order of their labels."""
    labels = program.labels()
    if labels == sorted(labels):
        return program
    return made_program(program.frame, program.scale, rules_in_order(program.rules()))


def ordered_store(store):
    """The store with its rows in ascending order of (name, things)."""
    rows = store.rows()
    ordered = rows_in_order(rows)
    return store if rows == ordered else store.with_rows(ordered)


def rules_in_order(rules):
    """The rules in ascending order of their labels, no two of which are the same."""
    return sorted(rules, key=lambda rule: rule[0])


def rows_in_order(rows):
    """The rows in ascending order of (name, things), no two of which are the same."""
    return sorted(rows, key=lambda row: (row[0], row[1]))

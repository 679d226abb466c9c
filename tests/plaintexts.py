"""The form of a question's text as a grammar, and how far a text is a beginning of some text of it."""

LETTERS = "abcdefghijklmnopqrstuvwxyz"
SIGNS = LETTERS + "0123456789"

# A class stands for one of its signs, each other name for one of several rows of names and single signs.
CLASSES = {"LETTER": LETTERS, "SIGN": SIGNS, "WORTH SIGN": SIGNS + "/"}
GRAMMAR = {
    "TEXT": [[*"ask", "VARIABLES", *": ", "TERM"]],
    "VARIABLES": [[], [" ", "WORD", "VARIABLES"]],
    "TERM": [
        ["WORD", "PLACES"],
        ["$", "WORD", "PLACES"],
        ["(", "TERM", " ", "REST"],
        [*"sum ", "WORD", " ", "TERM"],
        ["#", "WORTH"],
        [*"let ", "WORD", "COLUMNS", *" be ", "TERM", *" in ", "TERM"],
        [*"least ", "WORD", "COLUMNS", *" be ", "TERM", *" in ", "TERM"],
    ],
    # One row for all brackets, so that the ways to go on do not multiply with each one that is begun.
    "REST": [[*"+ ", "TERM", ")"], [*"& ", "TERM", ")"], [*"if ", "PLACE", " ", "TEST SIGN", " ", "PLACE", ")"]],
    "TEST SIGN": [["="], [*"!="]],
    "PLACES": [["(", ")"], ["(", "PLACE", "MORE PLACES", ")"]],
    "MORE PLACES": [[], [" ", "PLACE", "MORE PLACES"]],
    "PLACE": [["WORD"], ["@", "WORD"]],
    "COLUMNS": [["(", ")"], ["(", "COLUMN", "MORE COLUMNS", ")"]],
    "MORE COLUMNS": [[], [*", ", "COLUMN", "MORE COLUMNS"]],
    "COLUMN": [["WORD", *" of ", "WORD"]],
    "WORD": [["LETTER", "WORD 11"]],
    "WORTH": [["WORTH SIGN"], ["WORTH SIGN", "WORTH"]],
    "WORD 0": [[]],
}
for count in range(1, 12):
    GRAMMAR[f"WORD {count}"] = [[], ["SIGN", f"WORD {count - 1}"]]


def opened(stacks):
    """The stacks, each a pair of a sign or a class and what follows, or None at the end, that these can become."""
    found, waiting = [], list(stacks)
    while waiting:
        stack = waiting.pop()
        if stack is None or len(stack[0]) == 1 or stack[0] in CLASSES:
            found.append(stack)
            continue
        for row in GRAMMAR[stack[0]]:
            further = stack[1]
            for name in reversed(row):
                further = (name, further)
            waiting.append(further)
    return found


def first_wrong_sign(text):
    """None if the text is one by the grammar, else the number of signs of its longest beginning that begins one."""
    stacks = opened([("TEXT", None)])
    for at, sign in enumerate(text):
        stacks = opened([stack[1] for stack in stacks if stack is not None and sign in CLASSES.get(stack[0], stack[0])])
        if not stacks:
            return at
    return None if None in stacks else len(text)

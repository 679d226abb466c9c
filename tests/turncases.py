"""Turns of programs, many of each form; and values that are none."""

from worthhouse.rules import Program
from worthhouse.turns import all_turns

FORMS = ["unfold", "fold", "drop", "order", "join", "part", "special"]


def some_turns(rng, program, store):
    """Turns of the program, those of all_turns and others, in any order; some folds may have too many places."""
    names = [name for name, _ in program.frame.ruled()]
    found = all_turns(program, [name for name in names if rng.random() < 0.5])
    for name, kinds in program.frame.ruled():
        for at, kind in enumerate(kinds):
            found += [("special", name, at, thing) for thing, own in store.things() if own == kind]
    for label, _, body, _, _ in program.rules():
        places = list(range(len(body)))
        rng.shuffle(places)
        found.append(("order", label, tuple(places)))
        found += [("fold", label, (at,)) for at in places]
        if len(body) > 2:
            found.append(("fold", label, (0, len(body) - 1)))
        found.append(("drop", tuple(rng.sample(names, rng.randint(0, len(names))))))
    rng.shuffle(found)
    return found


def with_a_twin(rng, program):
    """The program, now and then with a rule that differs from another one in label and worth alone."""
    rules = program.rules()
    if rules and rng.random() < 0.4:
        label, head, body, tests, _ = rng.choice(rules)
        rules.insert(rng.randint(0, len(rules)), ("twin", head, body, tests, rng.choice(program.scale.worths())))
    return Program(program.frame, program.scale, rules)

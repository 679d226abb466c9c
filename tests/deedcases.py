"""Deeds for programs and stores, by a seed; and values that are no deeds."""

from tests.samples import ODD_VALUES


def told_facts(program, store):
    return [fact for name, _ in program.frame.told() for fact in store.facts_of(name)]


def some_deed(rng, program, store):
    """A deed that can be done, None if none was found; it may change nothing."""
    worths = program.scale.worths()
    facts = told_facts(program, store)
    for _ in range(20):
        word = rng.choice(["tell", "raise", "clear", "rule", "unrule"])
        if word in ("tell", "raise") and facts:
            return (word, *rng.choice(facts), rng.choice(worths))
        if word == "clear" and store.rows():
            return (word, *rng.choice(store.rows())[:2])
        if word == "unrule" and len(program):
            return (word, rng.choice(program.labels()))
        if word == "rule" and len(program):
            label = rng.choice(program.labels() + ["aa", "zz"])
            _, head, body, tests, worth = rng.choice(program.rules())
            body = tuple(atom for k, atom in enumerate(body) if rng.random() < 0.8 or k == 0)
            rule = (label, head, body, tests, rng.choice([worth, rng.choice(worths)]))
            inner = [place for atom in body for place in atom[1]]
            places = [place for place in head[1] if place[0] != "@"] + [p for t in tests for p in t[1:] if p[0] != "@"]
            if len(program) < 10 and all(place in inner for place in places):
                return (word, rule)
    return None


def no_deeds(good):
    """Values that are no deeds, by deeds that are."""
    found = list(ODD_VALUES) + ["tell", ("tell",), ("do", "e"), (["tell"], "e", (), "1"), ({}, "e")]
    for deed in good:
        found += [list(deed), deed[:-1], deed + ("1",), ("Tell",) + deed[1:], deed[1:]]
        for place in range(1, len(deed)):
            odd = [None, 0, True, [], {}, (1,), ("a", 1), (("a",),), ("a", None), ["a"]]
            odd += ["a"] if isinstance(deed[place], tuple) else [(), ("a",)]
            found += [deed[:place] + (value,) + deed[place + 1:] for value in odd]
    return found

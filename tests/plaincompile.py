"""Points S6.1 and S6.2 once more, by recursion."""

from tests.plaincheck import parts


def plain_columns(term):
    """The columns of a term, in ascending order."""
    if term[0] in ("table", "call"):
        return sorted({place for place in term[2] if place[0] != "@"})
    if term[0] in ("let", "least"):
        return plain_columns(term[4])
    found = {name for part in parts(term) for name in plain_columns(part)}
    return sorted(found - {term[1]} if term[0] == "over" else found)


def written(term):
    found = set()
    if term[0] in ("table", "call"):
        found |= set(term[2])
    if term[0] == "over":
        found.add(term[1])
    if term[0] in ("let", "least"):
        found |= {variable for variable, _ in term[2]}
    for part in parts(term):
        found |= written(part)
    return found


def many_ways(term):
    if term[0] == "both":
        return many_ways(term[1]) + many_ways(term[2])
    if term[0] in ("over", "where", "let", "least"):
        return many_ways(parts(term)[-1])
    return 1


class PlainCompile:
    def __init__(self, scale, question):
        self.scale = scale
        self.free_words = (word for word in (f"v{k}" for k in range(9999)) if word not in written(question[1]))
        self.tables = []
        self.made_for_parts, self.made_for_names, self.words = {}, {}, {}
        self.make(question[0], (), question[1])
        self.go(question[1], (), False)
        self.rules = []
        for name, _, columns, term, place in self.tables:
            for atoms, tests, worth in self.ways(term, place):
                self.rules.append((f"w.{len(self.rules)}", (name, columns), tuple(atoms), tuple(tests), worth))
        self.parts = [(name, place) for name, place, _, _, _ in self.tables]

    def make(self, columns, place, term):
        name = f"q.{len(self.tables)}"
        self.tables.append((name, place, tuple(columns), term, place))
        return name

    def go(self, term, place, in_with):
        if in_with and many_ways(term) > 1:
            self.made_for_parts[place] = self.make(plain_columns(term), place, term)
        if term[0] in ("let", "least"):
            self.made_for_names[term[1]] = self.make([name for name, _ in term[2]], place + (0,), term[3])
        if term[0] == "over":
            self.words[place] = next(self.free_words)
        for step, part in enumerate(parts(term)):
            self.go(part, place + (step,), term[0] == "with")

    def ways(self, term, place):
        word, one = term[0], self.scale.one
        if word == "table":
            return [([(term[1], term[2])], [], one)]
        if word == "call":
            return [([(self.made_for_names[term[1]], term[2])], [], one)]
        if word == "worth":
            return [([], [], term[1])]
        inner = [self.ways(part, place + (step,)) for step, part in enumerate(parts(term))]
        if word == "both":
            return inner[0] + inner[1]
        if word == "where":
            return [(atoms, tests + [term[1]], worth) for atoms, tests, worth in inner[0]]
        if word == "over":
            return [self.renamed(way, term[1], self.words[place]) for way in inner[0]]
        if word in ("let", "least"):
            return inner[1]
        both = []
        for step, part in enumerate(term[1:]):
            made = self.made_for_parts.get(place + (step,))
            both.append(inner[step][0] if made is None else ([(made, tuple(plain_columns(part)))], [], one))
        (atoms, tests, worth), (others, other_tests, other_worth) = both
        return [(atoms + others, tests + other_tests, self.scale.times(worth, other_worth))]

    def renamed(self, way, old, new):
        atoms, tests, worth = way
        return (
            [(name, tuple(new if place == old else place for place in places)) for name, places in atoms],
            [(word, *(new if place == old else place for place in (p, q))) for word, p, q in tests],
            worth,
        )

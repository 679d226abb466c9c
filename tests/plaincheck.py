"""Questions checked once more, by recursion; and questions with a part exchanged for another one."""

import re

from tests.samples import ODD_VALUES

WORD = re.compile(r"[a-z][a-z0-9]{0,11}")
FORMS = {
    "table": ("word", "places"),
    "call": ("word", "places"),
    "both": ("term", "term"),
    "with": ("term", "term"),
    "over": ("word", "term"),
    "where": ("test", "term"),
    "worth": ("string",),
    "let": ("word", "columns", "term", "term"),
    "least": ("word", "columns", "term", "term"),
}


class Wrong(Exception):
    pass


def is_word(value):
    return type(value) is str and WORD.fullmatch(value) is not None


def is_place(value):
    return is_word(value) or (type(value) is str and value[:1] == "@" and is_word(value[1:]))


def has_form(value, form):
    if form == "word":
        return is_word(value)
    if form == "string":
        return type(value) is str
    if form == "term":
        return True
    if type(value) is not tuple:
        return False
    if form == "places":
        return all(is_place(place) for place in value)
    if form == "columns":
        return all(type(pair) is tuple and len(pair) == 2 and is_word(pair[0]) and is_word(pair[1]) for pair in value)
    return len(value) == 3 and value[0] in ("same", "unlike") and is_place(value[1]) and is_place(value[2])


def parts(term):
    return [part for part, form in zip(term[1:], FORMS[term[0]]) if form == "term"]


def check_form(term, place):
    if type(term) is not tuple or not term or type(term[0]) is not str or term[0] not in FORMS:
        raise Wrong(place, "form")
    forms = FORMS[term[0]]
    if len(term) != len(forms) + 1 or not all(has_form(value, form) for value, form in zip(term[1:], forms)):
        raise Wrong(place, "form")
    for step, part in enumerate(parts(term)):
        check_form(part, place + (step,))


class Kinds:
    def __init__(self, frame, scale):
        self.frame, self.scale = frame, scale
        self.tables = dict(frame.told() + frame.ruled())
        self.told = dict(frame.told())
        self.names = []
        self.things = {}

    def need(self, holds, place, word):
        if not holds:
            raise Wrong(place, word)

    def columns(self, term, place, callable_names):
        """The columns of a term as a set of pairs."""
        word = term[0]
        if word in ("table", "call"):
            known = self.told if word == "table" else callable_names
            self.need(term[1] in known, place, "name")
            kinds = known[term[1]]
            self.need(len(kinds) == len(term[2]), place, "places")
            found = {}
            for told, kind in zip(term[2], kinds):
                self.note(self.things if told[0] == "@" else found, told, kind, place)
            return set(found.items())
        if word == "worth":
            self.need(term[1] in self.scale.worths(), place, "worth")
            return set()
        if word in ("let", "least"):
            return self.columns_of_let(term, place, callable_names)
        inner = [self.columns(part, place + (step,), callable_names) for step, part in enumerate(parts(term))]
        if word == "with":
            both = inner[0] | inner[1]
            self.need(len(dict(both)) == len(both), place, "kind")
            return both
        if word == "both":
            self.need(inner[0] == inner[1], place, "columns")
        if word == "over":
            self.need(term[1] in dict(inner[0]), place, "columns")
            return {pair for pair in inner[0] if pair[0] != term[1]}
        if word == "where":
            self.look_at_test(term[1][1:], dict(inner[0]), place)
        return inner[0]

    def note(self, known, told, kind, place):
        self.need(known.setdefault(told, kind) == kind, place, "kind")

    def look_at_test(self, places, kinds, place):
        variables = [told for told in places if told[0] != "@"]
        for told in places:
            if told[0] == "@" and variables and variables[0] in kinds:
                self.note(self.things, told, kinds[variables[0]], place)
        self.need(variables != [], place, "test")
        self.need(all(told in kinds for told in variables), place, "test")
        self.need(len({kinds[told] for told in variables}) == 1, place, "test")

    def columns_of_let(self, term, place, callable_names):
        word, name, columns, s, t = term
        self.need(name not in self.tables and name not in self.names, place, "name")
        self.need(all(kind in self.frame.kinds() for _, kind in columns), place, "kind")
        self.need(len({variable for variable, _ in columns}) == len(columns), place, "columns")
        self.names.append(name)
        wider = {**callable_names, name: [kind for _, kind in columns]}
        inner = self.columns(s, place + (0,), wider if word == "least" else callable_names)
        self.need(inner == set(columns), place, "columns")
        return self.columns(t, place + (1,), wider)


def plain_fault(frame, scale, question):
    """(place, word) of what is wrong about a question, any value; None if it is right."""
    try:
        if type(question) is not tuple or len(question) != 2 or type(question[0]) is not tuple:
            raise Wrong((), "form")
        if not all(is_word(variable) for variable in question[0]):
            raise Wrong((), "form")
        check_form(question[1], ())
        columns = Kinds(frame, scale).columns(question[1], (), {})
        if sorted(question[0]) != sorted(dict(columns)):
            raise Wrong((), "variables")
    except Wrong as wrong:
        return wrong.args
    return None


PIECES = [
    "x", "y", "z", "v0", "@c", "@d", "@n", "@zz", "k", "m", "zz", "a", "b", "t", "u", "z0", "w3", "gone", "r1", "s1", "q2",
    "table", "call", "both", "with", "over", "where", "worth", "let", "least", "same", "unlike", "nought", "Zz", "@", "@@c",
    "a" * 12, "a" * 13, "q.0", (), ("x",), ("x", "y"), ("@c",), (("x", "k"),), (("x", "m"), ("y", "k")), (("x", "k"), ("x", "k")),
    ("table", "a", ("x",)), ("table", "z0", ()), ("worth", "0"), ("worth", "zz"), ("call", "r1", ()), ("call", "s1", ("x",)),
    ("same", "x", "y"), ("unlike", "@c", "@d"), ("unlike", "x", "@c"), ("same", "x", "@n"),
]


def changed(rng, value):
    """The value with one part, at any depth, exchanged, doubled, left out or put in."""
    if type(value) is tuple and value and rng.random() < 0.93:
        k = rng.randrange(len(value))
        return value[:k] + (changed(rng, value[k]),) + value[k + 1 :]
    way = rng.random()
    if type(value) is tuple and value and way < 0.35:
        k = rng.randrange(len(value))
        return rng.choice([value[:k] + value[k + 1 :], value[:k] + value[k : k + 1] + value[k:], value[::-1], list(value)])
    if way < 0.5:
        return rng.choice(ODD_VALUES)
    return rng.choice(PIECES)


def exchanged(rng, value, other):
    """The value with a random part exchanged for a random part of another value."""
    while type(other) is tuple and other and rng.random() < 0.8:
        other = rng.choice(other)
    while True:
        if type(value) is tuple and value and rng.random() < 0.85:
            k = rng.randrange(len(value))
            return value[:k] + (exchanged(rng, value[k], other),) + value[k + 1 :]
        return other

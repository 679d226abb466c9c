"""Random right questions, and questions worked out in the plainest way, by the words of point S5.1."""

import itertools
import random

from worthhouse.frames import Frame
from worthhouse.scales import CountScale, TurnScale
from worthhouse.stores import Store

VARIABLES = ["x", "y", "z", "v0", "v1", "w"]


def ask_frame():
    """A frame with tables of all sizes; each kind has a table of its own."""
    return Frame(
        ["k", "m"],
        [("a", ("k",)), ("b", ("m",)), ("t", ("k", "k")), ("u", ("k", "m")), ("z0", ()), ("w3", ("k", "m", "k"))],
        [("gone", ("k",))],
    )


class RandomQuestions:
    """Questions over ask_frame, and stores for them, made by a seed."""

    def __init__(self, seed, things=None):
        self.random = random.Random(seed)
        self.frame = ask_frame()
        self.things = [("c", "k"), ("n", "m"), ("d", "k")] if things is None else things

    def store(self, scale, things=None, share=0.6):
        bare = Store(self.frame, scale, self.things if things is None else things, [])
        facts = [fact for name, _ in self.frame.told() for fact in bare.facts_of(name)]
        chosen = [fact for fact in facts if self.random.random() < share][:60]
        self.random.shuffle(chosen)
        return bare.with_rows([fact + (self.random.choice(scale.worths()),) for fact in chosen])

    def question(self, scale, most=25, with_leasts=True, columns=2):
        self.scale = scale
        self.left = self.random.randint(1, most)
        self.with_leasts = with_leasts
        self.made = 0
        wanted = self.some_columns(self.random.randint(0, columns))
        term = self.term(wanted, {})
        variables = list(wanted)
        self.random.shuffle(variables)
        return (tuple(variables), term)

    def some_columns(self, many):
        chosen = self.random.sample(VARIABLES, many)
        return {name: self.random.choice(["k", "k", "m"]) for name in chosen}

    def term(self, columns, callable_names):
        self.left -= 1
        if self.left <= 0:
            return self.small(columns, callable_names)
        forms = ["small", "both", "both", "with", "with", "over", "over", "where", "let"]
        if self.with_leasts:
            forms += ["least", "least"]
        form = self.random.choice(forms)
        if form == "where" and not columns:
            form = "over"
        if form in ("let", "least") and self.made >= 4:
            form = "with"
        if form == "over" and len(columns) >= 4:
            form = "both"
        return getattr(self, form)(columns, callable_names)

    def small(self, columns, callable_names):
        """A table or a call with just these columns, or a worth; a with where no table will do."""
        tables = [("table", name, kinds) for name, kinds in self.frame.told()]
        tables += [("call", name, kinds) for name, kinds in callable_names.items()] * 3
        able = [table for table in tables if self.can_hold(table[2], columns)]
        if not columns and self.random.random() < 0.3:
            return ("worth", self.random.choice(self.scale.worths()))
        if able:
            word, name, kinds = self.random.choice(able)
            return (word, name, self.places(kinds, columns))
        names = list(columns)
        first = {name: columns[name] for name in names[:1]}
        rest = {name: columns[name] for name in names[1:]}
        return ("with", self.small(first, callable_names), self.small(rest, callable_names))

    def can_hold(self, kinds, columns):
        left = list(kinds)
        for kind in columns.values():
            if kind not in left:
                return False
            left.remove(kind)
        return all(kind in columns.values() or any(k == kind for _, k in self.things) for kind in left)

    def places(self, kinds, columns):
        while True:
            places = []
            for kind in kinds:
                able = [name for name in columns if columns[name] == kind] * 3
                able += ["@" + thing for thing, k in self.things if k == kind]
                places.append(self.random.choice(able))
            if all(name in places for name in columns):
                return tuple(places)

    def both(self, columns, callable_names):
        return ("both", self.term(columns, callable_names), self.term(columns, callable_names))

    def over(self, columns, callable_names):
        name = self.random.choice([name for name in VARIABLES if name not in columns])
        wider = {**columns, name: self.random.choice(["k", "m"])}
        return ("over", name, self.term(wider, callable_names))

    def where(self, columns, callable_names):
        one = self.random.choice(list(columns))
        others = [name for name in columns if columns[name] == columns[one]]
        others += ["@" + thing for thing, kind in self.things if kind == columns[one]]
        places = [one, self.random.choice(others)]
        self.random.shuffle(places)
        test = (self.random.choice(["same", "unlike"]), *places)
        return ("where", test, self.term(columns, callable_names))

    def made_name(self):
        self.made += 1
        return self.random.choice(["r", "s", "q"]) + str(self.made)

    def let(self, columns, callable_names):
        name, told = self.made_name(), self.some_columns(self.random.randint(0, 2))
        s = self.term(told, callable_names)
        pairs = list(told.items())
        self.random.shuffle(pairs)
        inner = {**callable_names, name: tuple(kind for _, kind in pairs)}
        return ("let", name, tuple(pairs), s, self.term(columns, inner))

    def least(self, columns, callable_names):
        name, told = self.made_name(), self.some_columns(self.random.randint(0, 2))
        pairs = list(told.items())
        self.random.shuffle(pairs)
        inner = {**callable_names, name: tuple(kind for _, kind in pairs)}
        return ("least", name, tuple(pairs), self.term(told, inner), self.term(columns, inner))


setattr(RandomQuestions, "with", lambda self, columns, names: split_with(self, columns, names))


def split_with(cases, columns, names):
    parts = [{}, {}]
    for name, kind in columns.items():
        for part in cases.random.choice([[0], [1], [0, 1]]):
            parts[part][name] = kind
    return ("with", cases.term(parts[0], names), cases.term(parts[1], names))


class Plain:
    """Runs a term for one filling after the other; counts the rounds of its leasts."""

    def __init__(self, store):
        self.store = store
        self.scale = store.scale
        self.rows = {(name, things): worth for name, things, worth in store.rows()}
        self.rounds = {}

    def things(self, kind):
        return [thing for thing, k in self.store.things() if k == kind]

    def fillings(self, kinds):
        return list(itertools.product(*[self.things(kind) for kind in kinds]))

    def answers(self, question, kinds):
        """kinds: a dict from the question's variables to their kinds."""
        return {
            things: self.worth(question[1], dict(zip(question[0], things)), {})
            for things in self.fillings([kinds[name] for name in question[0]])
        }

    def worth(self, term, filling, tables):
        scale = self.scale
        word = term[0]

        def at(place):
            return place[1:] if place[0] == "@" else filling[place]

        if word == "table":
            return self.rows.get((term[1], tuple(at(place) for place in term[2])), scale.nought)
        if word == "call":
            return tables[term[1]][tuple(at(place) for place in term[2])]
        if word == "worth":
            return term[1]
        if word == "both":
            return scale.plus(self.worth(term[1], filling, tables), self.worth(term[2], filling, tables))
        if word == "with":
            return scale.times(self.worth(term[1], filling, tables), self.worth(term[2], filling, tables))
        if word == "over":
            kind = self.kind_of_column(term[2], term[1], tables)
            return scale.total([self.worth(term[2], {**filling, term[1]: thing}, tables) for thing in self.things(kind)])
        if word == "where":
            holds = (at(term[1][1]) == at(term[1][2])) == (term[1][0] == "same")
            return self.worth(term[2], filling, tables) if holds else scale.nought
        names = tuple(name for name, _ in term[2])
        every = self.fillings([kind for _, kind in term[2]])

        def led(inner):
            return {things: self.worth(term[3], dict(zip(names, things)), inner) for things in every}

        if word == "let":
            table = led(tables)
        else:
            table, rounds = {things: scale.nought for things in every}, 0
            while True:
                further = led({**tables, term[1]: table})
                if further == table:
                    break
                table, rounds = further, rounds + 1
            self.rounds[term[1]] = rounds
        tables = {**tables, term[1]: table}
        return self.worth(term[4], filling, tables)

    def kind_of_column(self, term, name, tables):
        """The kind of a free column, found where it stands."""
        word = term[0]
        if word == "table":
            kinds = self.store.frame.places(term[1])
            return kinds[term[2].index(name)] if name in term[2] else None
        if word == "call":
            kinds = self.kinds[term[1]]
            return kinds[term[2].index(name)] if name in term[2] else None
        if word == "worth" or (word == "over" and term[1] == name):
            return None
        if word in ("let", "least"):
            return self.kind_of_column(term[4], name, tables)
        for part in term[1:] if word in ("both", "with") else term[2:]:
            kind = self.kind_of_column(part, name, tables)
            if kind is not None:
                return kind
        return None

    def note_kinds(self, term):
        """Notes the kinds of the places of all names R."""
        if term[0] in ("let", "least"):
            self.kinds = {**getattr(self, "kinds", {}), term[1]: [kind for _, kind in term[2]]}
        for part in term[1:]:
            if isinstance(part, tuple) and part and part[0] in PLAIN_WORDS and term[0] not in ("table", "call", "worth"):
                self.note_kinds(part)


PLAIN_WORDS = ("table", "call", "worth", "both", "with", "over", "where", "let", "least")


def plain_run(store, question, kinds):
    """The answers, and the rounds of each least when it was worked out last."""
    plain = Plain(store)
    plain.note_kinds(question[1])
    return plain.answers(question, kinds), plain.rounds

"""Questions run plainly over a store (points S5.1 and S5.6)."""

from worthhouse.errors import BadQuestion, MixedFrames, MixedScales, UnknownThing
from worthhouse.questionforms import AHEAD, BEHIND, BETWEEN, going, names_table, parts_of
from worthhouse.questionkinds import checked
from worthhouse.questions import term_at
from worthhouse.relations import (
    alone,
    at_places,
    by_columns,
    multiplied,
    summed,
    summed_out,
    told_worths,
    where_holds,
)
from worthhouse.resting import need_steady
from worthhouse.words import ways


def run(frame, scale, store, question):
    """The answers: a dict from all fillings of the question's variables to worths."""
    columns = need_askable(frame, scale, store, question).columns_in_order(question[0])
    return answers_of(store, Running(store, question[1]).relation(), columns)


def run_at(frame, scale, store, question, place):
    """The answers of the term at a place, by its columns in ascending order."""
    checking = need_askable(frame, scale, store, question)
    term = term_at(question, place)
    if _free_names(going(term))[()]:
        raise BadQuestion(place, "name")
    columns = list(checking.columns_at_place(place).items())
    return answers_of(store, Running(store, term).relation(), columns)


def rounds_of(frame, scale, store, question):
    """A dict from the names R of the leasts that stand in no s of another one to the numbers of their rounds."""
    need_askable(frame, scale, store, question)
    running = Running(store, question[1])
    running.relation()
    return {name: running.rounds_for(name) for name in _outer_leasts(question[1])}


def need_askable(frame, scale, store, question):
    """The checking of the question; raises what run raises."""
    checking = checked(frame, scale, question)
    if store.frame != frame:
        raise MixedFrames()
    if store.scale != scale:
        raise MixedScales()
    for thing, kind in checking.things_with_kinds():
        if not store.has_thing(thing, kind):
            raise UnknownThing(thing)
    if _outer_leasts(question[1]):
        need_steady(scale)
    return checking


def answers_of(store, relation, columns):
    """The dict from all fillings of the columns, pairs of variable and kind, to worths."""
    worths = by_columns(relation, [variable for variable, _ in columns])
    return {filling: worths.get(filling, store.scale.nought) for filling in fillings_by(store, columns)}


def fillings_by(store, columns):
    """The list of all fillings of the columns, the first place changing last."""
    return ways([store.things_of(kind) for _, kind in columns])


class Running:
    """The going through a term that works out the relations of all terms, each from those of its parts.

    At the end of the s of a least the going starts again with this s, until the table
    stays as it is. A term is not worked out anew if no table that it calls has changed
    since it was worked out last.
    """

    def __init__(self, store, term):
        self._scale = store.scale
        self._told = told_worths(store)
        self._steps = going(term)
        self._firsts = {place: at for at, (moment, place, _) in enumerate(self._steps) if moment == AHEAD}
        self._lasts = {place: at for at, (moment, place, _) in enumerate(self._steps) if moment == BEHIND}
        self._free = _free_names(self._steps)
        self._called = {}
        self._changes = {}
        self._rounds = {}
        self._kept = {}
        self._found = []

    def relation(self):
        """The relation of the whole term."""
        at = 0
        while at < len(self._steps):
            moment, place, term = self._steps[at]
            if moment == AHEAD:
                at = self._ahead(at, place, term)
            elif moment == BETWEEN and names_table(term):
                at = self._between(at, place, term)
            else:
                if moment == BEHIND:
                    self._behind(place, term)
                at += 1
        return self._found[0]

    def rounds_for(self, name):
        """How many rounds the least of this name took when it was worked out last."""
        return self._rounds[name]

    def _ahead(self, at, place, term):
        """What is done ahead of a term's parts; the number of the next step."""
        if place in self._kept and self._kept[place][0] == self._marks(place):
            self._found.append(self._kept[place][1])
            return self._lasts[place] + 1
        if term[0] == "least":
            self._call_by(term[1], {})
            self._rounds[term[1]] = 0
        return at + 1

    def _between(self, at, place, term):
        """What is done behind the s of a let or a least; the number of the next step."""
        word, name, columns, _, _ = term
        worths = by_columns(self._found.pop(), [variable for variable, _ in columns])
        if word == "least" and worths != self._called[name]:
            self._rounds[name] += 1
            self._call_by(name, worths)
            return self._firsts[place] + 1
        self._call_by(name, worths)
        return at + 1

    def _behind(self, place, term):
        # The relation of the s of a let or a least has been taken already.
        many = 1 if names_table(term) else len(parts_of(term))
        start = len(self._found) - many
        relation = self._worked_out(term, self._found[start:])
        del self._found[start:]
        self._found.append(relation)
        self._kept[place] = (self._marks(place), relation)

    def _worked_out(self, term, parts):
        word = term[0]
        if word == "table":
            return at_places(self._told[term[1]], term[2])
        if word == "call":
            return at_places(self._called[term[1]], term[2])
        if word == "worth":
            return alone(self._scale, term[1])
        if word == "both":
            return summed(self._scale, parts[0], parts[1])
        if word == "with":
            return multiplied(self._scale, parts[0], parts[1])
        if word == "over":
            return summed_out(self._scale, parts[0], term[1])
        if word == "where":
            return where_holds(parts[0], term[1])
        return parts[0]

    def _call_by(self, name, worths):
        """From now on the table of this name has these worths."""
        if name not in self._called or self._called[name] != worths:
            self._changes[name] = self._changes.get(name, 0) + 1
        self._called[name] = worths

    def _marks(self, place):
        """What tells whether a table that the term at this place calls has changed."""
        return [self._changes[name] for name in self._free[place]]


def _free_names(steps):
    """A dict from the places to the lists of the names that are called there, but not made there."""
    free = {}
    for moment, place, term in steps:
        if moment == BEHIND:
            below = [name for step in range(len(parts_of(term))) for name in free[place + (step,)]]
            own = [term[1]] if term[0] == "call" else []
            free[place] = [name for name in sorted(set(below + own)) if not names_table(term) or name != term[1]]
    return free


def _outer_leasts(term):
    """The list of the names R of the leasts that stand in no s of another least."""
    found = []
    within_leasts = 0
    for moment, _, met_term in going(term):
        if met_term[0] == "least" and moment == AHEAD:
            if within_leasts == 0:
                found.append(met_term[1])
            within_leasts += 1
        if met_term[0] == "least" and moment == BETWEEN:
            within_leasts -= 1
    return found

"""Questions checked by names and kinds (point S5.3)."""

from worthhouse.errors import BadQuestion
from worthhouse.questionforms import AHEAD, BETWEEN, first_unformed, going, is_question, names_table
from worthhouse.ruleforms import names_thing


class Checking:
    """What is known of a question's names, things and columns while its terms are gone through."""

    def __init__(self, frame, scale):
        self._frame = frame
        self._scale = scale
        self._named = {}
        self._callable = {}
        self._things = {}
        self._columns = {}

    def columns_at_place(self, place):
        """A dict from the columns of the term at a place, in ascending order, to their kinds."""
        columns = self._columns[place]
        return {variable: columns[variable] for variable in sorted(columns)}

    def columns_in_order(self, variables):
        """The list of the pairs of a column of the question's term and its kind, in the order of these variables."""
        return [(variable, self._columns[()][variable]) for variable in variables]

    def things_with_kinds(self):
        """The list of the pairs of a thing and its kind, in the order in which they were looked at."""
        return list(self._things.items())

    def look(self, moment, place, term):
        """Looks at a term at a moment of the going."""
        if moment == AHEAD:
            if names_table(term):
                self._look_ahead(place, term)
        elif moment == BETWEEN:
            if names_table(term):
                self._look_between(place, term)
        else:
            self._columns[place] = self._columns_behind(place, term)

    def _look_ahead(self, place, term):
        word, name, columns, _, _ = term
        _need(not self._frame.has_table(name) and name not in self._named, place, "name")
        kinds = self._frame.kinds()
        _need(all([kind in kinds for _, kind in columns]), place, "kind")
        _need(len(dict(columns)) == len(columns), place, "columns")
        self._named[name] = [kind for _, kind in columns]
        if word == "least":
            self._callable[name] = True

    def _look_between(self, place, term):
        _need(self._columns[place + (0,)] == dict(term[2]), place, "columns")
        self._callable[term[1]] = True

    def _columns_behind(self, place, term):
        word = term[0]
        if word == "table":
            _need(self._frame.has_told(term[1]), place, "name")
            return self._columns_by(place, term[2], self._frame.places(term[1]))
        if word == "call":
            _need(term[1] in self._callable, place, "name")
            return self._columns_by(place, term[2], self._named[term[1]])
        if word == "worth":
            _need(term[1] in self._scale, place, "worth")
            return {}
        if names_table(term):
            del self._callable[term[1]]
            return self._columns[place + (1,)]
        return self._columns_of_parts(place, term)

    def _columns_by(self, place, places, kinds):
        """The columns of a table's term or a call, by the kinds at the table's places."""
        _need(len(places) == len(kinds), place, "places")
        columns = {}
        for told, kind in zip(places, kinds):
            known = self._things if names_thing(told) else columns
            _need(known.setdefault(told.removeprefix("@"), kind) == kind, place, "kind")
        return columns

    def _columns_of_parts(self, place, term):
        word = term[0]
        first = self._columns[place + (0,)]
        if word == "over":
            _need(term[1] in first, place, "columns")
            return {variable: first[variable] for variable in first if variable != term[1]}
        if word == "where":
            self._look_at_test(place, term[1], first)
            return first
        second = self._columns[place + (1,)]
        if word == "both":
            _need(first == second, place, "columns")
            return first
        _need(all([second.get(variable, first[variable]) == first[variable] for variable in first]), place, "kind")
        return {**first, **second}

    def _look_at_test(self, place, test, columns):
        variables = [told for told in test[1:] if not names_thing(told)]
        kinds = [columns[variable] for variable in variables if variable in columns]
        # A thing beside a variable that is no column has no kind.
        for told in test[1:]:
            if names_thing(told) and kinds:
                _need(self._things.setdefault(told.removeprefix("@"), kinds[0]) == kinds[0], place, "kind")
        has_columns = len(variables) > 0 and len(kinds) == len(variables)
        _need(has_columns and all([kind == kinds[0] for kind in kinds]), place, "test")


def checked(frame, scale, question):
    """The going through a right question of any value, with what it found; raises BadQuestion for a wrong one."""
    _need(is_question(question), (), "form")
    variables, term = question
    unformed = first_unformed(term)
    if unformed is not None:
        raise BadQuestion(unformed, "form")
    checking = Checking(frame, scale)
    for moment, place, met_term in going(term):
        checking.look(moment, place, met_term)
    _need(sorted(variables) == list(checking.columns_at_place(())), (), "variables")
    return checking


def _need(holds, place, word):
    if not holds:
        raise BadQuestion(place, word)

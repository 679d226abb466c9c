"""What the settled worth of a fact needs: rows, worths of a row, raises (points S8.6 to S8.8)."""

from worthhouse.deeds import is_raise, need_row_deed, with_row
from worthhouse.errors import BadDeed, NotTold, TooMany, UnknownFact
from worthhouse.leastlists import least_lists, least_of
from worthhouse.lines import uses_of_lines
from worthhouse.resting import need_steady, within
from worthhouse.rounds import need_ruled_facts
from worthhouse.rules import need_fit
from worthhouse.scales import need_worth
from worthhouse.serving import Serving
from worthhouse.settling import Settling, uses_below
from worthhouse.stores import is_fact
from worthhouse.uses import row_worths, weighed_uses

MOST_ROWS = 8
MOST_WISHED = 8


def worths_at(program, store, name, things, fact):
    """A dict from the worths of the scale to those that a fact has if a row of a told fact has them."""
    need_fit(program, store)
    need_steady(program.scale)
    if not program.frame.has_told(name):
        raise NotTold(name)
    if not is_fact(program.frame, store, (name, things)):
        raise UnknownFact((name, things))
    need_ruled_facts(program, store, [fact])
    changing = Changing(program, store, [(name, things)], fact)
    return {worth: changing.worth_with({(name, things): worth}) for worth in program.scale.worths()}


def needed_rows(program, store, fact):
    """A list of rows that serve the fact, and no longer do if any one is left out."""
    serving = _serving_for(program, store, fact)
    return [serving.mattering[number] for number in least_of(serving.rows_of_lines(program.scale), serving.serves)]


def needs(program, store, fact):
    """The list of all least lists of rows that serve the fact."""
    serving = _serving_for(program, store, fact)
    _need_few_rows(serving)
    return _lists_of(serving.mattering, least_lists(len(serving.mattering), serving.serves))


def losses(program, store, fact):
    """The list of all least lists of rows that are a loss for the fact."""
    serving = _serving_for(program, store, fact)
    _need_few_rows(serving)
    return _lists_of(serving.mattering, least_lists(len(serving.mattering), serving.is_loss))


def rows_under(program, store, lines):
    """The list of the rows whose facts are told facts of the uses of right lines."""
    told = {fact: True for use in uses_of_lines(program, store, lines) for fact in use[3]}
    return [row for row in store.rows() if row[:2] in told]


def wishes(program, store, deeds, fact, worth):
    """The list of all least lists of numbers of raises by which the worth is within that of the fact."""
    need_fit(program, store)
    need_steady(program.scale)
    for deed in deeds:
        if not is_raise(deed):
            raise BadDeed()
        need_row_deed(store, deed)
    need_ruled_facts(program, store, [fact])
    need_worth(program.scale, worth)
    if len(deeds) > MOST_WISHED:
        raise TooMany()
    wishing = Wishing(program, store, deeds, fact, worth)
    return [list(numbers) for numbers in least_lists(len(deeds), wishing.is_granted)]


class Changing:
    """The uses below a ruled fact over stores that differ in the rows of some told facts alone."""

    def __init__(self, program, store, told, fact):
        self._scale = program.scale
        self._fact = fact
        # With the worth one in these rows the worths of the uses are those of what stays.
        for name, things in told:
            store = with_row(store, name, things, program.scale.one)
        self._weighed = uses_below(weighed_uses(program, store), fact)
        self._changing = [[row for row in use[3] if row in told] for use, _ in self._weighed]
        self._settling = Settling(program.scale, [(use[2], use[4]) for use, _ in self._weighed])

    def worth_with(self, worths):
        """The settled worth of the fact, by a dict of the worths of the rows of these told facts."""
        weights = []
        for (_, weight), rows in zip(self._weighed, self._changing):
            for row in rows:
                weight = self._scale.times(weight, worths[row])
            weights.append(weight)
        return self._settling.worths_by(weights).get(self._fact, self._scale.nought)


class Wishing:
    """Raises, some of which may be done, and a worth that is wished for a fact."""

    def __init__(self, program, store, deeds, fact, worth):
        self._scale = program.scale
        self._raises = [(deed[1:3], deed[3]) for deed in deeds]
        told = {raised: True for raised, _ in self._raises}
        rows = row_worths(store)
        # What has no row is as what has a row of nought.
        self._worths = {raised: rows.get(raised, program.scale.nought) for raised in told}
        self._changing = Changing(program, store, list(told), fact)
        self._wished = worth

    def is_granted(self, mask):
        """Whether the worth is within the fact's if just the raises are done that the bits of the mask tell."""
        worths = {raised: self._worths[raised] for raised in self._worths}
        for number, (raised, more) in enumerate(self._raises):
            if mask & (1 << number):
                worths[raised] = self._scale.plus(worths[raised], more)
        return within(self._scale, self._wished, self._changing.worth_with(worths))


def _serving_for(program, store, fact):
    need_fit(program, store)
    need_steady(program.scale)
    need_ruled_facts(program, store, [fact])
    return Serving(program, store, fact)


def _need_few_rows(serving):
    if serving.many > MOST_ROWS:
        raise TooMany()


def _lists_of(rows, lists):
    """The lists of the rows with these numbers."""
    return [[rows[number] for number in numbers] for numbers in lists]

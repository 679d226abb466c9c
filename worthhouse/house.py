"""Houses: states with numbers, led by deeds, in branches with trails (points S9.1 to S9.9)."""

from worthhouse.branches import elders, last_common
from worthhouse.edits import edited
from worthhouse.errors import BadName, NoState, NothingDone, TooMany, UnknownName
from worthhouse.merging import in_order, merged
from worthhouse.pasts import first_past
from worthhouse.resting import need_steady
from worthhouse.rounds import need_ruled_facts
from worthhouse.rules import need_fit
from worthhouse.words import is_known, is_number, is_word

FIRST_BRANCH = "main"
MOST_STATES = 200
MOST_BRANCHES = 6


class House:
    """A history of states; past, as it stands at each moment, is never changed itself."""

    def __init__(self, program, store):
        need_fit(program, store)
        self.past = first_past(in_order(program, store), FIRST_BRANCH)

    def do(self, deed):
        """Does a deed to the present state; the number of the new state."""
        program, store = self.now()
        return self._come_to(deed, edited(program, store, deed))

    def present(self):
        """The number of the present state."""
        return self.past.present_number()

    def now(self):
        """The present state."""
        return self.state(self.present())

    def state(self, number):
        """The state with this number, any value."""
        moment = self._moment(number)
        return (moment.program, moment.store)

    def log(self):
        """The list of the tuples (elder, deed) of the states from 1 on."""
        return list(self.past.steps)

    def undo(self):
        """Goes one place back in the trail; the number that is then present."""
        return self._move(-1)

    def redo(self):
        """Goes one place on in the trail; the number that is then present."""
        return self._move(1)

    def branch(self, name):
        """Makes a branch that has the present number alone in its trail."""
        if not is_word(name) or name in self.past.trails:
            raise BadName(name)
        if len(self.past.trails) >= MOST_BRANCHES:
            raise TooMany()
        self.past = self.past.with_trail(name, (self.present(),), 0)

    def go(self, name):
        """Stands in this branch from now on; the present number."""
        self._need_branch(name)
        self.past = self.past.standing_in(name)
        return self.present()

    def here(self):
        """The name of the branch in which the house stands."""
        return self.past.standing

    def branches(self):
        """The list of the names of the branches, in the order in which they were made."""
        return list(self.past.trails)

    def trail(self, name):
        """The list of the numbers in the trail of a branch."""
        self._need_branch(name)
        return list(self.past.trails[name][0])

    def mark(self, name):
        """The place of a branch in its trail."""
        self._need_branch(name)
        return self.past.trails[name][1]

    def merge(self, name):
        """Merges a branch into the present state; the number that is then present."""
        self._need_branch(name)
        trail, place = self.past.trails[name]
        number, other = self.present(), trail[place]
        if other in elders(self, number):
            return number
        elder = last_common(self, number, other)
        return self._come_to(("merge", other), merged(self.state(elder), self.now(), self.state(other)))

    def worth(self, fact):
        """The settled worth of a fact in the present state."""
        return self.worth_at(self.present(), fact)

    def worth_at(self, number, fact):
        """The settled worth of a fact in a state."""
        moment = self._moment(number)
        need_ruled_facts(moment.program, moment.store, [fact])
        need_steady(moment.program.scale)
        return moment.worth_of(fact)

    def watch(self, facts):
        """These facts are watched from now on, and no others."""
        program, store = self.now()
        need_ruled_facts(program, store, facts)
        if facts:
            need_steady(program.scale)
        self.past = self.past.with_watched(facts)

    def watched(self):
        """The list of the watched facts."""
        return list(self.past.watching)

    def kept(self):
        """A paper that is let by for the present state and the watched facts."""
        if not self.past.watching:
            return ((), ())
        return self._moment(self.present()).paper_for(self.past.watching)

    def twin(self):
        """Another, equal house."""
        return house_of(self.past)

    def __eq__(self, other):
        if not isinstance(other, House):
            return False
        return self.past.told() == other.past.told()

    def __len__(self):
        return len(self.past.moments)

    def _moment(self, number):
        if not is_number(number) or not 0 <= number < len(self.past.moments):
            raise NoState(number)
        return self.past.moments[number]

    def _need_branch(self, name):
        if not is_known(self.past.trails, name):
            raise UnknownName(name)

    def _move(self, step):
        trail, place = self.past.trails[self.here()]
        if not 0 <= place + step < len(trail):
            raise NothingDone()
        self.past = self.past.with_trail(self.here(), trail, place + step)
        return self.present()

    def _come_to(self, deed, state):
        """Puts a new state, that came of the present one, into the trail; its number."""
        if len(self) >= MOST_STATES:
            raise TooMany()
        trail, place = self.past.trails[self.here()]
        number = len(self)
        past = self.past.with_state(trail[place], deed, state)
        self.past = past.with_trail(self.here(), (*trail[:place + 1], number), place + 1)
        return number


def house_of(past):
    """A house with this past."""
    first = past.moments[0]
    house = House(first.program, first.store)
    house.past = past
    return house

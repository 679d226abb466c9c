"""What a house tells, as a value: no past is changed, each change makes another one.

So the past that a house had once is there again, whole, as soon as it is given back.
"""

from worthhouse.papers import paper_of
from worthhouse.settling import settled_worths
from worthhouse.uses import weighed_uses


class Moment:
    """A state of a house, and what has been worked out there once."""

    def __init__(self, state):
        self.program, self.store = state
        self._worths = None
        self._paper = None
        self._shown = ()

    def worth_of(self, fact):
        """The settled worth of a ruled fact, in a steady scale."""
        if self._worths is None:
            self._worths = settled_worths(self.program.scale, weighed_uses(self.program, self.store))
        return self._worths.get(fact, self.program.scale.nought)

    def paper_for(self, facts):
        """A paper that is let by for the least whole set with these facts, in a steady scale."""
        if self._paper is None or self._shown != facts:
            self._paper = paper_of(self.program, self.store, facts)
            self._shown = facts
        return self._paper


class Past:
    """Moments by their numbers, the log, trails and places by the names of branches, where one stands, what is watched.

    moments, steps and watching are tuples, steps that of the pairs (elder, deed); trails is
    a dict from the names to pairs of a tuple of numbers and a place in it.
    """

    def __init__(self, moments, steps, trails, standing, watching):
        self.moments = moments
        self.steps = steps
        self.trails = trails
        self.standing = standing
        self.watching = watching

    def told(self):
        """What equal houses have in common: two pasts that tell the same are those of equal houses."""
        first = self.moments[0]
        return (first.program, first.store, self.steps, list(self.trails.items()), self.standing, self.watching)

    def present_number(self):
        """The number of the present state."""
        trail, place = self.trails[self.standing]
        return trail[place]

    def with_state(self, elder, deed, state):
        """The past with a further state that came of the elder one; no trail has it yet."""
        steps = (*self.steps, (elder, deed))
        return Past((*self.moments, Moment(state)), steps, self.trails, self.standing, self.watching)

    def with_trail(self, name, trail, place):
        """The past in which the branch of this name, perhaps a new one, has this trail and place."""
        trails = {**self.trails, name: (tuple(trail), place)}
        return Past(self.moments, self.steps, trails, self.standing, self.watching)

    def standing_in(self, name):
        """The past in which one stands in the branch of this name."""
        return Past(self.moments, self.steps, self.trails, name, self.watching)

    def with_watched(self, facts):
        """The past in which these facts are watched, each once."""
        watching = tuple({fact: True for fact in facts})
        return Past(self.moments, self.steps, self.trails, self.standing, watching)


def first_past(state, name):
    """The past of one state and one branch, in which one stands."""
    return Past((Moment(state),), (), {name: ((0,), 0)}, name, ())

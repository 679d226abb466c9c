"""What programs cost, and the plan by which a program costs least (point S7.7)."""

from worthhouse.compiling import store_over
from worthhouse.rules import made_program, need_fit
from worthhouse.tallies import Tallies
from worthhouse.turning import Turning, rules_behind
from worthhouse.turns import all_turns, need_ruled_tables, saving_turns


def cost(program, store):
    """The number of uses."""
    need_fit(program, store)
    return Costing(store).cost_of(program.frame, program.rules())


def plan_costs(program, store, turns):
    """The list of the costs ahead of a list of turns and behind each of them."""
    need_fit(program, store)
    costing = Costing(store)
    found = [costing.cost_of(program.frame, program.rules())]
    for turn in turns:
        program = Turning(program, turn).behind
        need_fit(program, store_over(program.frame, store))
        found.append(costing.cost_of(program.frame, program.rules()))
    return found


def best_plan(program, store, names, most):
    """The least list of at most so many turns behind which a program costs least, and this cost."""
    need_fit(program, store)
    need_ruled_tables(program, names)
    planning = Planning(program, store, names)
    for number in range(most):
        if number == most - 1:
            planning.end_plans()
        else:
            planning.lengthen_plans()
    return planning.best()


class Planning:
    """Plans of one length that go on, and the best plan so far.

    A plan is told by its turns, and by the frame, the rules and the cost of the program
    behind them. Plans are gone through in their order, shorter ones first. So a plan is
    better than the best one so far only if it costs less.
    """

    def __init__(self, program, store, names):
        self._scale = program.scale
        self._names = names
        self._costing = Costing(store)
        price = self._costing.cost_of(program.frame, program.rules())
        self._plans = [([], program.frame, program.rules(), price)]
        self._best = ([], price)

    def best(self):
        """The best plan, and what the program costs behind it."""
        return self._best

    def lengthen_plans(self):
        """Each plan goes on by each turn that can be done."""
        further = []
        for turns, frame, rules, _ in self._plans:
            program = made_program(frame, self._scale, rules)
            for turn in all_turns(program, self._names):
                further.append(self._looked_at(turns, program, turn))
        self._plans = further

    def end_plans(self):
        """Each plan goes on once more, by the turns alone that may make it the best one."""
        for turns, frame, rules, price in self._plans:
            if self._can_be_best(frame, rules, price):
                program = made_program(frame, self._scale, rules)
                for turn in saving_turns(program, self._names):
                    if self._costing.least_behind(program, price, turn) < self._best[1]:
                        self._looked_at(turns, program, turn)

    def _can_be_best(self, frame, rules, price):
        """Whether one more turn may lead to less than the best cost: it spares one rule or drops some."""
        own = [rule for rule in rules if rule[1][0] in self._names]
        dearest = max([0] + [self._costing.cost_of(frame, [rule]) for rule in rules])
        return min(price - dearest, self._costing.cost_of(frame, own)) < self._best[1]

    def _looked_at(self, turns, program, turn):
        """The plan that goes on by this turn, which is the best one if it costs less."""
        # No such turn names a thing that no rule named ahead of it: the program fits the store still.
        frame, rules, _ = rules_behind(program, turn)
        price = self._costing.cost_of(frame, rules)
        longer = [*turns, turn]
        if price < self._best[1]:
            self._best = (longer, price)
        return (longer, frame, rules, price)


class Costing:
    """The costs of rules over a store."""

    def __init__(self, store):
        self._tallies = Tallies(store)
        self._counts = {}

    def cost_of(self, frame, rules):
        """The number of the uses of rules over a frame with the kinds and the told tables of the store's."""
        # The ruled tables tell which atoms are ruled, and the kinds there; few turns change these.
        counts = self._counts.setdefault(tuple(frame.ruled()), {})
        found = 0
        for rule in rules:
            key = rule[2:4]
            if key not in counts:
                counts[key] = self._tallies.use_tally(frame, rule)
            found += counts[key]
        return found

    def least_behind(self, program, price, turn):
        """What a program of this price costs at least behind one of saving_turns."""
        if turn[0] == "drop":
            return 0
        # The rule that is spoken of is made anew; of a join another one goes, which has as many uses.
        return price - self.cost_of(program.frame, [program.rule(turn[1])])

"""What programs cost, and the plan by which a program costs least (point S7.7)."""

from worthhouse.compiling import store_over
from worthhouse.rules import made_program, need_fit
from worthhouse.tallies import Tallies
from worthhouse.turning import Turning, rules_behind
from worthhouse.turns import all_turns, need_ruled_tables, saving_turns


def cost(program, store):
    """The number of uses."""
    need_fit(program, store)
    return Costing(store).cost_of(program.frame, program.rules())


def plan_costs(program, store, turns):
    """The list of the costs ahead of a list of turns and behind each of them."""
    need_fit(program, store)
    costing = Costing(store)
    found = [costing.cost_of(program.frame, program.rules())]
    for turn in turns:
        program = Turning(program, turn).behind
        need_fit(program, store_over(program.frame, store))
        found.append(costing.cost_of(program.frame, program.rules()))
    return found


def best_plan(program, store, names, most):
    """The least list of at most so many turns behind which a program costs least, and this cost."""
    need_fit(program, store)
    need_ruled_tables(program, names)
    costing = Costing(store)
    best = ([], costing.cost_of(program.frame, program.rules()))
    plans = [([], program)]
    for number in range(most):
        further = []
        for turns, met_program in plans:
            is_last = number == most - 1
            # A longer plan must cost less than a shorter one, so the last turn must save something.
            for turn in saving_turns(met_program, names) if is_last else all_turns(met_program, names):
                # These turns name no thing that the rules do not name ahead of them: so the program fits still.
                frame, rules, _ = rules_behind(met_program, turn)
                price = costing.cost_of(frame, rules)
                if price < best[1]:
                    best = (turns + [turn], price)
                if not is_last:
                    further.append((turns + [turn], made_program(frame, met_program.scale, rules)))
        plans = further
    return best


class Costing:
    """The costs of rules over a store."""

    def __init__(self, store):
        self._tallies = Tallies(store)
        self._counts = {}

    def cost_of(self, frame, rules):
        """The number of the uses of rules over a frame with the kinds and the told tables of the store's."""
        # The ruled tables tell which atoms are ruled, and the kinds there; few turns change these.
        counts = self._counts.setdefault(tuple(frame.ruled()), {})
        found = 0
        for rule in rules:
            key = rule[2:4]
            if key not in counts:
                counts[key] = self._tallies.use_tally(frame, rule)
            found += counts[key]
        return found

"""Programs: rules over a frame and a scale, and whether they fit a store."""

from worthhouse.errors import BadRule, MixedFrames, MixedScales, UnknownLabel, UnknownName, UnknownThing
from worthhouse.ruleforms import fact_at, is_rule, kinds_in_rule, names_thing, test_holds
from worthhouse.rulelikeness import are_alike
from worthhouse.words import is_known, is_name, is_word


class Program:
    """Rules, each with a label of its own (point S2.4)."""

    def __init__(self, frame, scale, rules):
        self.frame = frame
        self.scale = scale
        self._take(rules, is_word)

    def _take(self, rules, is_label):
        self._rules = {}
        self._kinds = {}
        self._shapes = {}
        things = {}
        for number, rule in enumerate(rules):
            kinds = self._kinds_beside(rule, things, is_label)
            if kinds is None:
                raise BadRule(number)
            self._rules[rule[0]] = rule
            self._kinds[rule[0]] = {place: kinds[place] for place in kinds if not names_thing(place)}
            things = {place: kinds[place] for place in kinds if names_thing(place)}
        self._needed = [(place[1:], things[place]) for place in things]

    def _kinds_beside(self, rule, things, is_label):
        """The kinds of the places, if this is a rule beside the earlier ones, else None."""
        if not is_rule(rule) or not is_label(rule[0]) or rule[0] in self._rules or rule[4] not in self.scale:
            return None
        return kinds_in_rule(self.frame, rule, things)

    def rules(self):
        """The list of the rules, in order."""
        return list(self._rules.values())

    def labels(self):
        """The list of the labels, in order."""
        return list(self._rules)

    def has_rule(self, label):
        """Whether the label, any value, is that of a rule."""
        return is_known(self._rules, label)

    def rule(self, label):
        """The rule with this label."""
        if not self.has_rule(label):
            raise UnknownLabel(label)
        return self._rules[label]

    def variables(self, label):
        """The tuple of the variables of a rule, in the order in which they first stand."""
        if not self.has_rule(label):
            raise UnknownLabel(label)
        return tuple(self._kinds[label])

    def kinds_of(self, label):
        """The list of the kinds of the variables of a rule, in their order."""
        if not self.has_rule(label):
            raise UnknownLabel(label)
        return list(self._kinds[label].values())

    def kind_at(self, label, variable):
        """The kind of a variable of a rule."""
        if variable not in self.variables(label):
            raise UnknownName(variable)
        return self._kinds[label][variable]

    def rules_for(self, name):
        """The list of the labels of the rules whose head is of a ruled table."""
        if not self.frame.has_ruled(name):
            raise UnknownName(name)
        return [label for label in self._rules if self._rules[label][1][0] == name]

    def shape(self, label):
        """What all uses of a rule share: the tuple (named, head, told, ruled).

        named are the things that the atoms name. An atom is told as a pair of its table
        and the numbers that its places have among the variables and, behind them, named.
        """
        if label not in self._shapes:
            self._shapes[label] = self._shape_of(label)
        return self._shapes[label]

    def _shape_of(self, label):
        _, head, body, _, _ = self.rule(label)
        named = tuple({place: True for _, places in (head, *body) for place in places if names_thing(place)})
        numbers = {place: number for number, place in enumerate(self.variables(label) + named)}
        atoms = [(name, tuple([numbers[place] for place in places])) for name, places in (head, *body)]
        told = [atom for atom in atoms[1:] if not self.frame.is_ruled(atom[0])]
        ruled = [atom for atom in atoms[1:] if self.frame.is_ruled(atom[0])]
        return (tuple([place[1:] for place in named]), atoms[0], told, ruled)

    def needed(self):
        """The list of the things that the rules name, each with its kind."""
        return list(self._needed)

    def __len__(self):
        return len(self._rules)

    def __eq__(self, other):
        if not isinstance(other, Program):
            return False
        return self.frame == other.frame and self.scale == other.scale and self.rules() == other.rules()


def made_program(frame, scale, rules):
    """The program whose labels may be made names."""
    program = Program(frame, scale, [])
    program._take(rules, is_name)
    return program


def needed_things(program):
    """The list of the pairs of a thing that the rules name and its kind, in the order in which they first stand."""
    return program.needed()


def filled(program, label, things):
    """The head's fact, the body's facts, and whether all tests hold, by one thing for each variable."""
    _, head, body, tests, _ = program.rule(label)
    filling = dict(zip(program.variables(label), things))
    facts = tuple([fact_at(atom, filling) for atom in body])
    return (fact_at(head, filling), facts, all([test_holds(test, filling) for test in tests]))


def need_fit(program, store):
    """Raises an error unless the program fits the store (point S2.6)."""
    if program.frame != store.frame:
        raise MixedFrames()
    if program.scale != store.scale:
        raise MixedScales()
    for thing, kind in program.needed():
        if not store.has_thing(thing, kind):
            raise UnknownThing(thing)


def same_rules(first, second):
    """Whether the rules of two programs can be paired so that those of a pair are alike."""
    if first.frame != second.frame or first.scale != second.scale or len(first) != len(second):
        return False
    left = second.rules()
    for rule in first.rules():
        # Being alike is an equivalence, so any rule that is alike will do.
        places = [place for place in range(len(left)) if are_alike(rule, left[place])]
        if not places:
            return False
        del left[places[0]]
    return True

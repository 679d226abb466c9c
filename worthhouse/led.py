"""States, facts, deeds, papers and houses led along maps of scales, renamings and further things (part 10)."""

from worthhouse.errors import BadName, MixedScales
from worthhouse.frames import made_frame
from worthhouse.house import house_of
from worthhouse.merging import in_order
from worthhouse.papers import gone_on
from worthhouse.pasts import first_past
from worthhouse.resting import need_steady
from worthhouse.ruleforms import names_thing
from worthhouse.rules import made_program
from worthhouse.scalemaps import ScaleMap
from worthhouse.stores import Store
from worthhouse.words import is_word


class Renaming:
    """Newer names for kinds, tables, things and labels (point S10.2)."""

    def __init__(self, kinds, tables, things, labels):
        lists = [kinds, tables, things, labels]
        for pairs in lists:
            for pair in pairs:
                for name in pair:
                    if not is_word(name):
                        raise BadName(name)
        for pairs in lists:
            _need_unlike_pairs(pairs)
        self._leads = tuple([dict(pairs) for pairs in lists])

    def pairs(self):
        """The list of the four lists of pairs, as they can be handed in."""
        return [list(leads.items()) for leads in self._leads]

    def lead_kind(self, name):
        """The newer name of a kind."""
        return self._leads[0].get(name, name)

    def lead_table(self, name):
        """The newer name of a table."""
        return self._leads[1].get(name, name)

    def lead_thing(self, name):
        """The newer name of a thing."""
        return self._leads[2].get(name, name)

    def lead_label(self, name):
        """The newer label of a rule."""
        return self._leads[3].get(name, name)


class MoreThings:
    """Things that are put in behind those that there are (point S10.1)."""

    def __init__(self, things):
        self._things = tuple(things)

    def pairs(self):
        """The list of the pairs of a thing and its kind."""
        return list(self._things)


def led_state(change, program, store):
    """The led state, in order."""
    if isinstance(change, Renaming):
        return _renamed_state(change, program, store)
    if isinstance(change, ScaleMap):
        return _mapped_state(change, program, store)
    wider = Store(store.frame, store.scale, store.things() + change.pairs(), store.rows())
    return in_order(program, wider)


def led_fact(change, fact):
    """The led fact."""
    if not isinstance(change, Renaming):
        return fact
    return (change.lead_table(fact[0]), tuple([change.lead_thing(thing) for thing in fact[1]]))


def led_worth(change, worth):
    """The led worth."""
    return change(worth) if isinstance(change, ScaleMap) else worth


def led_deed(change, deed):
    """The led deed; a merge stays as it is."""
    word = deed[0]
    if word == "merge":
        return deed
    if word == "rule":
        return (word, _led_rule(change, deed[1]))
    if word == "unrule":
        return (word, _led_label(change, deed[1]))
    return (word, *led_fact(change, deed[1:3]), *[led_worth(change, worth) for worth in deed[3:]])


def led_paper(change, program, store, paper):
    """The led paper, of a paper whose lines are right."""
    led_program, led_store = led_state(change, program, store)
    if isinstance(change, ScaleMap):
        return paper
    if isinstance(change, MoreThings):
        need_steady(led_program.scale)
        return gone_on(led_program, led_store, paper)
    facts, lines = paper
    led_lines = [
        (change.lead_label(label), tuple([change.lead_thing(thing) for thing in things]), children)
        for label, things, children in lines
    ]
    return (tuple([led_fact(change, fact) for fact in facts]), tuple(led_lines))


def led_house(change, house):
    """Another house: the led one."""
    states = []
    for number in range(len(house)):
        program, store = house.state(number)
        states.append(led_state(change, program, store))
    if isinstance(change, Renaming):
        _need_unlike_labels(change, house)
    past = first_past(states[0], house.branches()[0])
    for state, (elder, deed) in zip(states[1:], house.log()):
        past = past.with_state(elder, led_deed(change, deed), state)
    for name in house.branches():
        past = past.with_trail(name, house.trail(name), house.mark(name))
    past = past.standing_in(house.here())
    return house_of(past.with_watched([led_fact(change, fact) for fact in house.watched()]))


def _need_unlike_pairs(pairs):
    """Raises BadName for the first elder, or newer, name that stood before as one."""
    elders = set()
    newers = set()
    for elder, newer in pairs:
        if elder in elders:
            raise BadName(elder)
        if newer in newers:
            raise BadName(newer)
        elders.add(elder)
        newers.add(newer)


def _need_unlike(names):
    """Raises BadName for the first name that stood before."""
    seen = set()
    for name in names:
        if name in seen:
            raise BadName(name)
        seen.add(name)


def _need_unlike_labels(change, house):
    """Raises BadName for the first led label that stood before as that of an unlike one."""
    elders = {}
    for number in range(len(house)):
        program, _ = house.state(number)
        for label in program.labels():
            if elders.setdefault(change.lead_label(label), label) != label:
                raise BadName(change.lead_label(label))


def _mapped_state(change, program, store):
    if change.source != program.scale:
        raise MixedScales()
    rules = [_led_rule(change, rule) for rule in program.rules()]
    rows = [(name, things, change(worth)) for name, things, worth in store.rows()]
    return in_order(
        made_program(program.frame, change.target, rules), Store(store.frame, change.target, store.things(), rows)
    )


def _renamed_state(change, program, store):
    frame = program.frame
    kinds = [change.lead_kind(kind) for kind in frame.kinds()]
    told = _renamed_tables(change, frame.told())
    ruled = _renamed_tables(change, frame.ruled())
    things = [(change.lead_thing(thing), change.lead_kind(kind)) for thing, kind in store.things()]
    rules = [_led_rule(change, rule) for rule in program.rules()]
    _need_unlike(kinds)
    _need_unlike([name for name, _ in told + ruled])
    _need_unlike([thing for thing, _ in things])
    _need_unlike([rule[0] for rule in rules])
    led_frame = made_frame(kinds, told, ruled)
    rows = [(*led_fact(change, (name, filled)), worth) for name, filled, worth in store.rows()]
    return in_order(made_program(led_frame, program.scale, rules), Store(led_frame, store.scale, things, rows))


def _renamed_tables(change, tables):
    return [(change.lead_table(name), tuple([change.lead_kind(kind) for kind in kinds])) for name, kinds in tables]


def _led_rule(change, rule):
    """The led rule; variables stay."""
    label, head, body, tests, worth = rule
    led_tests = tuple([(word, _led_place(change, one), _led_place(change, other)) for word, one, other in tests])
    atoms = tuple([_led_atom(change, atom) for atom in body])
    return (_led_label(change, label), _led_atom(change, head), atoms, led_tests, led_worth(change, worth))


def _led_label(change, label):
    return change.lead_label(label) if isinstance(change, Renaming) else label


def _led_place(change, place):
    return "@" + change.lead_thing(place[1:]) if names_thing(place) and isinstance(change, Renaming) else place


def _led_atom(change, atom):
    name, places = atom
    led_name = change.lead_table(name) if isinstance(change, Renaming) else name
    return (led_name, tuple([_led_place(change, place) for place in places]))

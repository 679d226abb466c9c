"""Houses once more, in the plainest way: states are two dicts, and everything is kept in plain lists."""

from worthhouse.rules import Program
from worthhouse.stores import Store


class Refused(Exception):
    """The call cannot be done; the word tells why."""


class PlainHouse:
    def __init__(self, program, store):
        self.frame, self.scale, self.things = program.frame, program.scale, store.things()
        self.states = [self.parts(program, store)]
        self.log = []
        self.trails = {"main": [0]}
        self.marks = {"main": 0}
        self.here = "main"
        self.watched = []

    def parts(self, program, store):
        """A dict from spots to what is there."""
        found = {("row",) + row[:2]: row[2] for row in store.rows()}
        found.update({("rule", rule[0]): rule for rule in program.rules()})
        return found

    def state(self, number):
        parts = self.states[number]
        spots = sorted(parts)
        rules = [parts[spot] for spot in spots if spot[0] == "rule"]
        rows = [spot[1:] + (parts[spot],) for spot in spots if spot[0] == "row"]
        return Program(self.frame, self.scale, rules), Store(self.frame, self.scale, self.things, rows)

    def present(self):
        return self.trails[self.here][self.marks[self.here]]

    def put(self, deed, parts):
        if len(self.states) == 200:
            raise Refused("many")
        self.log.append((self.present(), deed))
        self.states.append(parts)
        self.trails[self.here] = self.trails[self.here][: self.marks[self.here] + 1] + [len(self.states) - 1]
        self.marks[self.here] += 1
        return len(self.states) - 1

    def do(self, deed):
        parts = dict(self.states[self.present()])
        if deed[0] == "rule":
            parts[("rule", deed[1][0])] = deed[1]
        elif deed[0] == "unrule":
            del parts[("rule", deed[1])]
        elif deed[0] == "clear":
            del parts[("row",) + deed[1:]]
        else:
            spot = ("row",) + deed[1:3]
            known = deed[0] == "raise" and spot in parts
            parts[spot] = self.scale.plus(parts[spot], deed[3]) if known else deed[3]
        return self.put(deed, parts)

    def move(self, step):
        place = self.marks[self.here] + step
        if not 0 <= place < len(self.trails[self.here]):
            raise Refused("end")
        self.marks[self.here] = place
        return self.present()

    def branch(self, name):
        if name in self.trails:
            raise Refused("name")
        if len(self.trails) == 6:
            raise Refused("many")
        self.trails[name], self.marks[name] = [self.present()], 0

    def elders(self, number):
        if number == 0:
            return {0}
        elder, deed = self.log[number - 1]
        found = {number} | self.elders(elder)
        return found | self.elders(deed[1]) if deed[0] == "merge" else found

    def last_common(self, one, other):
        return max(self.elders(one) & self.elders(other))

    def merge(self, name):
        other = self.trails[name][self.marks[name]]
        if other in self.elders(self.present()):
            return self.present()
        elder = self.last_common(self.present(), other)
        spots, parts = plain_merged(self.states[elder], self.states[self.present()], self.states[other])
        if spots:
            raise Refused(tuple(spots))
        return self.put(("merge", other), parts)


def plain_merged(elder, one, other):
    """The spots at which two states clash, and the parts of the merged one elsewhere."""
    spots, parts = [], {}
    for spot in sorted({*elder, *one, *other}):
        before, first, second = elder.get(spot), one.get(spot), other.get(spot)
        if first == second:
            found = first
        elif first == before:
            found = second
        elif second == before:
            found = first
        else:
            spots.append(spot)
            continue
        if found is not None:
            parts[spot] = found
    return spots, parts

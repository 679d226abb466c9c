"""What leading lines forth and back over a turn have in common (point S7.5)."""

from worthhouse.turning import pairs_places


class Leading:
    """Lines that are put one behind the other, none twice, and the new numbers of the handed-in lines."""

    def __init__(self):
        self._numbers = {}
        self._led = []

    def put(self, label, things, children):
        """The number of this line, which is put behind the others if it does not stand ahead."""
        return self._numbers.setdefault((label, things, tuple(children)), len(self._numbers))

    def lead(self, label, things, children):
        """Puts what the next handed-in line becomes."""
        self.lead_to(self.put(label, things, children))

    def lead_to(self, number):
        """From now on the line with this number stands for the next handed-in line; None if that is left out."""
        self._led.append(number)

    def led(self, children):
        """The list of the new numbers of handed-in lines."""
        return [self._led[child] for child in children]

    def lines(self):
        """The tuple of the lines, in order."""
        return tuple(self._numbers)


def filling_of(program, line):
    """A dict from the variables of a line's rule to its things."""
    return dict(zip(program.variables(line[0]), line[1]))


def things_for(program, label, filling):
    """The tuple of the things that the variables of a rule have in a filling."""
    return tuple([filling[variable] for variable in program.variables(label)])


def ruled_places(program, label):
    """The list of the places of the ruled atoms in the body of a rule: a line's children are for these, in order."""
    return [at for at, atom in enumerate(program.rule(label)[2]) if program.frame.is_ruled(atom[0])]


def unfolded_span(turning):
    """Which child of the turned rule is for the unfolded atom; in the new rules the children of s stand there."""
    _, label, at = turning.turn
    return ruled_places(turning.ahead, label).index(at)


def ordered_children(turning):
    """For the children of the rule behind an order the list of their places among those of the rule ahead of it."""
    _, label, places = turning.turn
    stood = ruled_places(turning.ahead, label)
    return [stood.index(place) for place in places if place in stood]


def special_flags(program, turn, body):
    """For each ruled atom of a body whether a special turn changes it."""
    _, name, place, thing = turn
    return [pairs_places(name, place, thing, atom) for atom in body if program.frame.is_ruled(atom[0])]

"""The rows of a house's text, taken one by one as far as they can stand (point S10.6)."""

from worthhouse.branches import elders, last_common
from worthhouse.edits import edited
from worthhouse.errors import BadText, NameMissing, WorthhouseError
from worthhouse.house import FIRST_BRANCH, MOST_BRANCHES, MOST_STATES, House
from worthhouse.merging import merged
from worthhouse.reading import RowReader
from worthhouse.resting import steady
from worthhouse.rounds import is_ruled_fact
from worthhouse.rules import Program, need_fit
from worthhouse.stores import Store, is_fact
from worthhouse.texts import read_fact, read_row, read_rule, read_store_row
from worthhouse.words import DIGITS, is_sign_of

# The sorts of rows, in the order in which they stand.
THING = 0
ROW = 1
RULE = 2
STATE = 3
BRANCH = 4
HERE = 5
WATCH = 6
# No number of a state, or of a place in a trail, has more signs.
MOST_NUMBER_SIGNS = 3


class HouseReading:
    """What the rows so far have told: state 0, then a house with all states, then its branches and what it watches."""

    def __init__(self, frame, scale):
        self._sort = THING
        self._rows = []
        self._program = Program(frame, scale, [])
        self._store = Store(frame, scale, [], [])
        self._house = None
        self._trails = {}
        self._standing = None
        self._watching = {}

    def is_whole(self):
        """Whether a row has told where the house stands."""
        return self._standing is not None

    def house(self):
        """The house that a whole text tells."""
        house = self._house
        past = house.past
        for name, (trail, place) in self._trails.items():
            past = past.with_trail(name, trail, place)
        house.past = past.standing_in(self._standing).with_watched(list(self._watching))
        return house

    def takes(self, reader, sort):
        """Whether the next row, of this sort by its first signs, can stand; an error tells as well that it cannot."""
        if sort < self._sort or (sort == HERE and self.is_whole()) or (sort == WATCH and not self.is_whole()):
            return False
        self._sort = sort
        if sort >= STATE and self._house is None:
            self._house = House(self._program, self._store.with_rows(self._rows))
        return self._take(reader, sort)

    def _take(self, reader, sort):
        if sort == THING:
            return self._take_thing(reader)
        if sort == ROW:
            return self._take_row(reader)
        if sort == RULE:
            return self._take_rule(reader)
        if sort == STATE:
            return self._take_state(reader)
        if sort == BRANCH:
            return self._take_branch(reader)
        return self._take_here(reader) if sort == HERE else self._take_watch(reader)

    def _take_thing(self, reader):
        """A thing and its kind."""
        things = [*self._store.things(), read_store_row(reader, True)]
        self._store = Store(self._store.frame, self._store.scale, things, [])
        return True

    def _take_row(self, reader):
        """A row of state 0's store, behind the earlier ones in order."""
        name, things, worth = read_row(reader)
        store = self._store
        if not store.frame.has_told(name) or not is_fact(store.frame, store, (name, things)):
            return False
        if worth not in store.scale:
            return False
        if self._rows and self._rows[-1][:2] >= (name, things):
            return False
        self._rows.append((name, things, worth))
        return True

    def _take_rule(self, reader):
        """A rule of state 0's program, behind the earlier ones in order."""
        rule = read_rule(reader)
        labels = self._program.labels()
        if labels and labels[-1] >= rule[0]:
            return False
        self._program = Program(self._program.frame, self._program.scale, [*self._program.rules(), rule])
        need_fit(self._program, self._store)
        return True

    def _take_state(self, reader):
        """The next state: its number, its elder, and the deed, which is done."""
        number = _read_number(reader)
        reader.skip(" ")
        elder = _read_number(reader)
        reader.skip(" ")
        deed = _read_deed(reader)
        house = self._house
        if number != len(house) or number >= MOST_STATES or elder >= number:
            return False
        program, store = house.state(elder)
        if deed[0] != "merge":
            state = edited(program, store, deed)
        elif deed[1] >= number or deed[1] in elders(house, elder):
            return False
        else:
            common = last_common(house, elder, deed[1])
            state = merged(house.state(common), house.state(elder), house.state(deed[1]))
        house.past = house.past.with_state(elder, deed, state)
        return True

    def _take_branch(self, reader):
        """A branch: its name, its place and its trail."""
        reader.skip("branch ")
        name = reader.take_word()
        reader.skip(" ")
        place = _read_number(reader)
        trail = []
        while not trail or reader.sign() == " ":
            reader.skip(" ")
            trail.append(_read_number(reader))
        reader.end()
        if name in self._trails or len(self._trails) >= MOST_BRANCHES or place >= len(trail):
            return False
        if not self._trails and (name != FIRST_BRANCH or trail[0] != 0):
            return False
        self._trails[name] = (trail, place)
        return self._is_trail(trail)

    def _take_here(self, reader):
        """The name of the branch in which the house stands."""
        reader.skip("here ")
        self._standing = reader.take_word()
        reader.end()
        return self._standing in self._trails

    def _take_watch(self, reader):
        """A watched fact."""
        reader.skip("watch ")
        fact = read_fact(reader)
        reader.end()
        if fact in self._watching or not is_ruled_fact(self._program, self._store, fact):
            return False
        self._watching[fact] = True
        return steady(self._store.scale)

    def _is_trail(self, trail):
        """Whether these are numbers of states, each behind the first one coming of the one before it."""
        log = self._house.log()
        if not all([number < len(self._house) for number in trail]):
            return False
        return all([number > 0 and log[number - 1][0] == before for before, number in zip(trail, trail[1:])])


def rows_stand(reading, rows):
    """How many rows, from the first one on, can stand."""
    for number, row in enumerate(rows):
        if not _stands(reading, row):
            return number
    return len(rows)


def _stands(reading, row):
    try:
        return reading.takes(RowReader(0, row), _sort_of(row))
    except BadText:
        return False
    except WorthhouseError:
        return False
    except NameMissing:
        return False


def _sort_of(row):
    """The sort of a row, if it is one by the form; no row can be of two sorts.

    A thing may be called "branch", "here" or "watch", but its row has three words, the
    last of which is no number and the second of which has no bracket.
    """
    words = row.split(" ")
    if is_sign_of(row[:1], DIGITS):
        return STATE
    if words[0] == "branch" and len(words) > 3:
        return BRANCH
    if words[0] == "here" and len(words) == 2:
        return HERE
    if words[0] == "watch" and len(words) > 1 and "(" in words[1]:
        return WATCH
    if words[0].endswith(":"):
        return RULE
    return ROW if "(" in words[0] else THING


def _read_number(reader):
    number = reader.take_number()
    if len(number) > MOST_NUMBER_SIGNS:
        reader.stop()
    return int(number)


def _read_deed(reader):
    """A deed, or a merge, up to the end of the row."""
    word = reader.take_word()
    reader.skip(" ")
    if word in ("tell", "raise"):
        return (word, *read_row(reader))
    if word == "rule":
        return (word, read_rule(reader))
    if word == "clear":
        deed = (word, *read_fact(reader))
    elif word == "unrule":
        deed = (word, reader.take_word())
    else:
        if word != "merge":
            reader.stop()
        deed = (word, _read_number(reader))
    reader.end()
    return deed

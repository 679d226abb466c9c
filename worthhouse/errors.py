"""The errors of the package; each is named by the point of the document that raises it."""


class WorthhouseError(ValueError):
    """What was handed in cannot be taken as it is."""


class BadScale(WorthhouseError):
    """The parts make no scale."""


class BadImages(WorthhouseError):
    """The images are not one for each worth."""


class BadTable(WorthhouseError):
    """The value is no table of worths."""


class BadTree(WorthhouseError):
    """The value is no tree."""


class BadBlocks(WorthhouseError):
    """The blocks do not part the worths."""


class BadPaper(WorthhouseError):
    """The value is no paper."""


class BadTurn(WorthhouseError):
    """The value is no turn of the program."""


class BadDeed(WorthhouseError):
    """The value is no deed."""


class MixedScales(WorthhouseError):
    """Two scales that must be the same are not."""


class MixedFrames(WorthhouseError):
    """Two frames that must be the same are not."""


class NotSteady(WorthhouseError):
    """The scale is not steady."""


class TooMany(WorthhouseError):
    """There are more than the document lets."""


class NothingDone(WorthhouseError):
    """There is nothing to be undone or redone."""


class NotLinked(WorthhouseError):
    """The blocks are not kept by a sum or a product."""

    def __init__(self, part, members):
        self.part = part
        self.members = tuple(members)


class NotKept(WorthhouseError):
    """The images do not keep a part of the scale."""

    def __init__(self, part, members):
        self.part = part
        self.members = tuple(members)


class BadFrame(WorthhouseError):
    """A kind or a table cannot stand in the frame."""

    def __init__(self, name):
        self.name = name


class BadName(WorthhouseError):
    """The name cannot be one here."""

    def __init__(self, name):
        self.name = name


class BadThing(WorthhouseError):
    """The thing cannot stand in the store."""

    def __init__(self, name):
        self.name = name


class BadRule(WorthhouseError):
    """The entry with this number is no rule."""

    def __init__(self, number):
        self.number = number


class BadRow(WorthhouseError):
    """The row with this number is no row."""

    def __init__(self, number):
        self.number = number


class NoLine(WorthhouseError):
    """The line with this number is not right, or there is none."""

    def __init__(self, number):
        self.number = number


class NoState(WorthhouseError):
    """No state has this number."""

    def __init__(self, number):
        self.number = number


class BadText(WorthhouseError):
    """A sign of the text cannot stand at this place."""

    def __init__(self, place):
        self.place = place


class BadQuestion(WorthhouseError):
    """The term at this place of the question is wrong."""

    def __init__(self, place, word):
        self.place = place
        self.word = word


class TwiceTold(WorthhouseError):
    """The row of this fact was told before."""

    def __init__(self, name, filled):
        self.name = name
        self.filled = tuple(filled)


class Clash(WorthhouseError):
    """Two states cannot be merged at these spots."""

    def __init__(self, spots):
        self.spots = tuple(spots)


class NameMissing(LookupError):
    """Something is asked for that is not there."""


class UnknownWorth(NameMissing):
    """The value is no worth of the scale."""

    def __init__(self, name):
        self.name = name


class UnknownName(NameMissing):
    """Nothing of the sort that is asked for has this name."""

    def __init__(self, name):
        self.name = name


class UnknownThing(NameMissing):
    """The store does not have the thing, or not with the kind."""

    def __init__(self, name):
        self.name = name


class UnknownLabel(NameMissing):
    """No rule has this label."""

    def __init__(self, name):
        self.name = name


class NotTold(NameMissing):
    """No told table has this name."""

    def __init__(self, name):
        self.name = name


class UnknownFact(NameMissing):
    """The value is no fact of the sort that is asked for."""

    def __init__(self, fact):
        self.fact = fact


class NoRow(NameMissing):
    """The store has no row for this fact."""

    def __init__(self, name, filled):
        self.name = name
        self.filled = tuple(filled)

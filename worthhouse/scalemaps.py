"""Maps that lead the worths of one scale to those of another and keep what a scale has."""

from worthhouse.errors import BadImages, MixedScales, NotKept
from worthhouse.scales import need_worth
from worthhouse.words import is_list, ways


class ScaleMap:
    """A map from the source's worths to the target's (point S1.8)."""

    def __init__(self, source, target, images):
        if not is_list(images) or len(images) != len(source):
            raise BadImages()
        for image in images:
            need_worth(target, image)
        leads = dict(zip(source.worths(), images))
        broken = _first_broken(source, target, leads)
        if broken is not None:
            raise NotKept(broken[0], broken[1])
        self.source = source
        self.target = target
        self._leads = leads

    @staticmethod
    def same(scale):
        """The map that leads each worth to itself."""
        return ScaleMap(scale, scale, scale.worths())

    def __call__(self, worth):
        need_worth(self.source, worth)
        return self._leads[worth]

    def images(self):
        """The list of the images of the source's worths, in order."""
        return list(self._leads.values())

    def __rshift__(self, other):
        if not isinstance(other, ScaleMap):
            return NotImplemented
        if self.target != other.source:
            raise MixedScales()
        return ScaleMap(self.source, other.target, [other._leads[image] for image in self.images()])

    def __eq__(self, other):
        if not isinstance(other, ScaleMap):
            return False
        return self.source == other.source and self.target == other.target and self._leads == other._leads


def all_maps(source, target):
    """The list of all maps from the source to the target, by the places of their images."""
    worths = source.worths()
    found = []
    for images in ways([_choices(source, target, worth) for worth in worths]):
        if _first_broken(source, target, dict(zip(worths, images))) is None:
            found.append(ScaleMap(source, target, images))
    return found


def _choices(source, target, worth):
    """The worths to which a map may lead this one, by what it does to nought and one."""
    choices = target.worths()
    if worth == source.nought:
        choices = [choice for choice in choices if choice == target.nought]
    if worth == source.one:
        choices = [choice for choice in choices if choice == target.one]
    return choices


def _first_broken(source, target, leads):
    """The part and members of the first thing that the dict of images does not keep, or None."""
    if leads[source.nought] != target.nought:
        return ("nought", ())
    if leads[source.one] != target.one:
        return ("one", ())
    pairs = ways([source.worths(), source.worths()])
    for a, b in pairs:
        if leads[source.plus(a, b)] != target.plus(leads[a], leads[b]):
            return ("sum", (a, b))
    for a, b in pairs:
        if leads[source.times(a, b)] != target.times(leads[a], leads[b]):
            return ("product", (a, b))
    return None

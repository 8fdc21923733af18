"""Boxes: inputs that go between two worths each, and what comes of all others, whatever the inputs do.

A narrower box never makes an end of a house wider. So a box is looked at as a whole, and its halves only if it does not
tell what comes of all settings in it.
"""

from newsbehind.endrounds import EndWants
from newsbehind.ends import widest_ends
from newsbehind.ways import one_way_words


def settings_between(pairs):
    """All settings of inputs that go between a low and a high each, ascending."""
    found = [()]
    for low, high in pairs:
        found = [setting + (worth,) for setting in found for worth in range(low, high + 1)]
    return found


class Box:
    """Inputs with a low and a high each, kept in a dict, and the ends of all houses that come of them."""

    def __init__(self, reckoned, kept, ends):
        self.reckoned = reckoned
        self.kept = kept
        self.ends = ends

    def with_input(self, house, low, high):
        """The box in which an input goes between these worths, no wider than here."""
        kept = {**self.kept, house: (low, high)}
        return Box(self.reckoned, kept, self.reckoned.settled_at(self.ends, kept))

    def all_rest(self):
        """Whether each house that is no input comes to one worth, the same one with all settings in the box."""
        lows, highs = self.ends
        return all(low == highs[house] or house in self.kept for house, low in enumerate(lows))

    def first_wide(self, houses):
        """The first of these inputs that has two worths or more, None if there is none."""
        for house in houses:
            low, high = self.kept[house]
            if low < high:
                return house
        return None

    def halves_of(self, house):
        """The lows and highs of both halves of the worths of an input, the lower ones first."""
        low, high = self.kept[house]
        middle = (low + high) // 2
        return (low, middle), (middle + 1, high)

    def settings_within(self):
        """All settings in the box, ascending."""
        return settings_between(list(self.kept.values()))

    def least_setting(self, houses):
        """The least setting in the box of these inputs."""
        return tuple([self.kept[house][0] for house in houses])


def widest_box(net, reckoned, inputs):
    """The box in which the inputs show whatever they like, reckoned being what the ends of the net want."""
    kept = {house: (0, net[0][house]) for house in inputs}
    return Box(reckoned, kept, reckoned.settled(widest_ends(net), kept))


def box_of(net, inputs):
    """That box for a net, refused if it has a branch that goes both ways."""
    return widest_box(net, EndWants(net, one_way_words(net), widest_ends(net)), inputs)


def settings_at_rest(box):
    """The settings in a box with which all other houses rest, ascending."""
    if box.all_rest():
        return box.settings_within()
    house = box.first_wide(list(box.kept))
    found = []
    if house is not None:
        for low, high in box.halves_of(house):
            found.extend(settings_at_rest(box.with_input(house, low, high)))
    return found


def first_restless(box):
    """The box of the first setting with which some other house does not rest, None if there is none."""
    if box.all_rest():
        return None
    house = box.first_wide(list(box.kept))
    if house is None:
        return box
    for low, high in box.halves_of(house):
        found = first_restless(box.with_input(house, low, high))
        if found is not None:
            return found
    return None


def first_forcing(box, mine):
    """A box whose least setting of mine is the first with which all rest whatever the other inputs show, or None."""
    if box.all_rest():
        return box
    house = box.first_wide(mine)
    if house is None:
        return box if first_restless(box) is None else None
    for low, high in box.halves_of(house):
        found = first_forcing(box.with_input(house, low, high), mine)
        if found is not None:
            return found
    return None

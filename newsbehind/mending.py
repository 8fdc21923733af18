"""Mending: the fewest houses by which a net is brought to a rest, and papers of it."""

from newsbehind.basics import is_ascending
from newsbehind.endrounds import EndWants
from newsbehind.ends import widest_ends
from newsbehind.fewest import Choice, NoMore, number_of, things_in
from newsbehind.resting import rests_always
from newsbehind.stirs import are_stirs, fixed_lot, unrest
from newsbehind.ways import one_way_words


def calms(net, rest, lot):
    """Whether a net with the houses of a lot fixed at the rest comes to it always."""
    one_way_words(net)
    return rests_always(fixed_lot(net, rest, lot))


class Stirs:
    """The stirs of a net, asked for one by one, each of as few houses as may be."""

    def __init__(self, net, rest):
        self.at_rest = [(worth, worth) for worth in rest]
        widest = widest_ends(net)
        self.reckoned = EndWants(net, one_way_words(net), widest)
        self.last = self.reckoned.settled(widest, ())
        self.told = []

    def held(self, lot, ends):
        """The last ends with the houses of a lot held at the rest, begun with ends within which they lie."""
        return self.reckoned.settled_at(ends, {house: self.at_rest[house] for house in lot})

    def lot_without(self, chosen):
        """The number of the unrest of a stir that has nothing of what is chosen, 0 if there is none."""
        lot = things_in(chosen)
        ends = self.held(lot, self.last)
        # Whoever can be held, too, without the net coming to rest, is not needed for a stir.
        for house in unrest(ends):
            narrower = self.held(lot + [house], ends)
            if narrower[0] != narrower[1]:
                lot.append(house)
                ends = narrower
        if ends[0] != ends[1]:
            self.told.append(ends)
        return number_of(unrest(ends))


def fewest_paper(net, rest):
    """A pair: a calming lot of as few houses as any, and stirs that show that fewer do not."""
    stirs = Stirs(net, rest)
    lot = things_in(Choice((), stirs).fewest())
    return tuple(lot), tuple(sorted(stirs.told))


def fewest_houses(net, rest):
    """A calming lot of as few houses as any."""
    return fewest_paper(net, rest)[0]


def _want_as_many(many, stirs):
    """Whether no lot of fewer houses than told has one of the unrest of each of these stirs."""
    lots = sorted({number_of(unrest(ends)) for ends in stirs})
    return Choice(lots, NoMore()).with_more(0, 0, many - 1) is None


def is_fewest_paper(net, rest, value):
    """Whether any value is a paper that shows a calming lot of as few houses as any."""
    one_way_words(net)
    if not isinstance(value, tuple) or len(value) != 2:
        return False
    lot, stirs = value
    if not is_ascending(lot, 0, len(net[0]) - 1) or not isinstance(stirs, tuple) or not are_stirs(net, rest, stirs):
        return False
    if any(ends >= later for ends, later in zip(stirs, stirs[1:])) or not calms(net, rest, lot):
        return False
    return len(lot) == 0 or _want_as_many(len(lot), stirs)

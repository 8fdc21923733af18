"""Stirs: ends around a rest that keep a net from coming to it."""

from newsbehind.endrounds import EndWants
from newsbehind.ends import are_ends, last_ends, lie_within, next_ends
from newsbehind.nets import fixed
from newsbehind.ways import one_way_words


def fixed_lot(net, rest, lot):
    """The net in which each house of a lot always wants what it shows in the rest."""
    for house in lot:
        net = fixed(net, house, rest[house])
    return net


def unrest(ends):
    """The houses whose low and high are unlike."""
    lows, highs = ends
    return tuple([house for house, low in enumerate(lows) if low != highs[house]])


def _lie_around(net, rest, value):
    """Whether any value is ends around a rest, not the same state twice."""
    return are_ends(net, value) and value[0] != value[1] and lie_within((rest, rest), value)


def is_stir(net, rest, value):
    """Whether any value is a stir."""
    one_way_words(net)
    return _lie_around(net, rest, value) and lie_within(value, next_ends(net, value))


def are_stirs(net, rest, values):
    """Whether all of a tuple of any values are stirs."""
    words = one_way_words(net)
    if not all(_lie_around(net, rest, entry) for entry in values):
        return False
    reckoned = EndWants(net, words, (rest, rest))
    for ends in values:
        reckoned.hear(ends)
        if not lie_within(ends, reckoned.behind()):
            return False
    return True


def stir_left(net, rest, lot):
    """A stir of a net without a house of the lot in its unrest, None if the lot calms."""
    one_way_words(net)
    ends = last_ends(fixed_lot(net, rest, lot))
    return None if ends[0] == ends[1] else ends

"""Resting: whether a net comes to one rest whatever the lateness, to which, and by when."""

from newsbehind.ends import all_rounds, ends_behind, last_ends
from newsbehind.errors import Refused


def rests_always(net):
    """Whether lows and highs of the last ends are the same."""
    lows, highs = last_ends(net)
    return lows == highs


def the_rest(net):
    """The state to which a net always comes, None if it doesn't."""
    lows, highs = last_ends(net)
    return lows if lows == highs else None


def resting_houses(net):
    """The houses that come to one worth, whatever the lateness, ascending."""
    lows, highs = last_ends(net)
    return tuple([house for house, low in enumerate(lows) if low == highs[house]])


def ends_at(net, d, beat):
    """The ends within which all lies that can show at a beat."""
    return ends_behind(net, beat // d + 1)


def settled_from(net, d):
    """The beat from which on a net that rests always shows nothing but its rest."""
    rounds = all_rounds(net)
    lows, highs = rounds[-1]
    if lows != highs:
        raise Refused(20)
    needed = len(rounds) - 1
    return d * max(needed - 1, 0)

"""How many rounds the knots of a net need, one behind another."""

from newsbehind.endrounds import ends_led_to, rounds_from
from newsbehind.ends import widest_ends
from newsbehind.nets import knots
from newsbehind.rules import branches
from newsbehind.ways import one_way_words


def _heard_outside(net, knot):
    """The houses outside of a knot that its houses hear."""
    return [other for house in knot for other in branches(net[1][house]) if other not in knot]


def _own_rounds(net, words, last, knot):
    """How many rounds lead the ends of a knot to those that stay, all other houses showing their low for both."""
    lows, highs = last
    if any(lows[other] != highs[other] for other in _heard_outside(net, knot)):
        return None
    houses = range(len(lows))
    rules = tuple([net[1][house] if house in knot else ("is", lows[house]) for house in houses])
    own_words = [words[house] if house in knot else () for house in houses]
    first_lows = tuple([0 if house in knot else lows[house] for house in houses])
    first_highs = tuple([net[0][house] if house in knot else lows[house] for house in houses])
    rounds = rounds_from((net[0], rules), own_words, (first_lows, first_highs), sum(net[0]))
    return len(rounds) - 1


def knot_rounds(net):
    """For each knot how many rounds it needs once all that it hears stays, None if something of that never does."""
    words = one_way_words(net)
    last = ends_led_to(net, words, widest_ends(net))
    return tuple([_own_rounds(net, words, last, knot) for knot in knots(net)])


def chain_rounds(net):
    """The greatest sum of these numbers over a chain of knots, None if one of them is none."""
    counts = knot_rounds(net)
    if None in counts:
        return None
    lots = knots(net)
    heard = [_heard_outside(net, lot) for lot in lots]
    ahead = [[at for at, lot in enumerate(lots) if any(house in lot for house in row)] for row in heard]
    sums = list(counts)
    # No chain has more knots than there are, so as often as that the sums may grow by one more knot.
    for _ in lots:
        sums = [count + max([sums[at] for at in row], default=0) for count, row in zip(counts, ahead)]
    return max(sums)

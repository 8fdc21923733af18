"""Ends: between which worths each house shows, round by round from below and above."""

from newsbehind.endrounds import EndWants, ends_led_to, rounds_from
from newsbehind.nets import is_state
from newsbehind.ways import one_way_words


def are_ends(net, value):
    """Whether any value is ends of a net: a pair of states, no low above its high."""
    if not isinstance(value, tuple) or len(value) != 2:
        return False
    lows, highs = value
    if not is_state(net, lows) or not is_state(net, highs):
        return False
    return all(low <= high for low, high in zip(lows, highs))


def lie_within(ends, others):
    """Whether ends lie within others: no low below, no high above."""
    lows_fit = all(low >= other for low, other in zip(ends[0], others[0]))
    return lows_fit and all(high <= other for high, other in zip(ends[1], others[1]))


def widest_ends(net):
    """All worths 0, and the tops; of any net."""
    return (0,) * len(net[0]), net[0]


def first_ends(net):
    """The ends from which the rounds begin: all worths 0, and the tops."""
    one_way_words(net)
    return widest_ends(net)


def next_ends(net, ends):
    """For each house what it wants at least and at most, hearing these ends."""
    return EndWants(net, one_way_words(net), ends).behind()


def first_rounds(net, most):
    """The first ends, the next ones and so on, up to the last ones, but at most so many next ones."""
    return rounds_from(net, one_way_words(net), widest_ends(net), most)


def all_rounds(net):
    """The first ends, the next ones and so on, up to the last ones."""
    # No round makes a low fall or a high rise, so there cannot be more rounds than all tops are together.
    return first_rounds(net, sum(net[0]))


def ends_behind(net, rounds):
    """The ends behind so many rounds from the first ends on."""
    return first_rounds(net, rounds)[-1]


def last_ends(net):
    """The first ends from the first ones on that are their own next ones."""
    return ends_led_to(net, one_way_words(net), widest_ends(net))


def rounds_needed(net):
    """How many rounds lead from the first ends to the last ones."""
    return len(all_rounds(net)) - 1

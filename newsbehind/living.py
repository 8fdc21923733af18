"""Lives: what is known of a net while beats go by."""

from newsbehind.basics import LEAST_OLD, MOST_OLD, is_integer, is_integer_in
from newsbehind.endrounds import rounds_from
from newsbehind.ends import first_ends
from newsbehind.nets import is_net
from newsbehind.traps import closed_around, is_trap
from newsbehind.ways import are_one_way, one_way_words


def closed(net, ends):
    """The least closed ends within which ends lie."""
    return closed_around(net, ends)


def is_life(value):
    """Whether any value is a life."""
    if not isinstance(value, tuple) or len(value) != 4:
        return False
    net, d, ends, age = value
    if not is_net(net) or not are_one_way(net) or not is_integer_in(d, LEAST_OLD, MOST_OLD):
        return False
    # Closed ends are what is called a trap elsewhere.
    return is_trap(net, ends) and is_integer(age) and age >= 0


def begun(net, d):
    """The life of a net of which nothing is known but the tops."""
    return net, d, first_ends(net), 0


def known(life):
    """The ends within which all lies that was shown in the last d beats."""
    net, d, ends, age = life
    return rounds_from(net, one_way_words(net), ends, age // d)[-1]


def life_rounds(life):
    """The ends of a life, the next ones and so on, up to the first that stay."""
    net = life[0]
    # Each round but the last makes some ends narrower, so there cannot be more than all tops are together.
    return rounds_from(net, one_way_words(net), life[2], sum(net[0]))


def known_of(life, rounds):
    """What is known, told by the rounds of the life."""
    return rounds[min(life[3] // life[1], len(rounds) - 1)]


def beats_left(life, rounds):
    """How many beats are left until one state alone is known, told by the rounds of the life; None if it never is."""
    lows, highs = rounds[-1]
    return max(life[1] * (len(rounds) - 1) - life[3], 0) if lows == highs else None


def rests_in(life):
    """How many beats are left until one state alone is known, if only beats go by; None if it never is."""
    return beats_left(life, life_rounds(life))

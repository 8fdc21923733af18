"""Traps: ends out of which nothing leads, whatever the lateness."""

from newsbehind.endrounds import EndWants, ends_led_to
from newsbehind.ends import are_ends, lie_within
from newsbehind.errors import InvalidQuestion
from newsbehind.ways import one_way_words


def _holds(net, words, value):
    """Whether any value is ends with their next ends within them."""
    return are_ends(net, value) and lie_within(EndWants(net, words, value).behind(), value)


def is_trap(net, value):
    """Whether any value is a trap."""
    return _holds(net, one_way_words(net), value)


def _around(ends, others):
    """The least ends within which both of these lie."""
    lows = tuple([min(low, other) for low, other in zip(ends[0], others[0])])
    highs = tuple([max(high, other) for high, other in zip(ends[1], others[1])])
    return lows, highs


def closed_around(net, ends):
    """The least trap within which ends lie."""
    reckoned = EndWants(net, one_way_words(net), ends)
    wider = _around(ends, reckoned.behind())
    while wider != ends:
        ends = wider
        reckoned.hear(ends)
        wider = _around(ends, reckoned.behind())
    return ends


def trap_around(net, state):
    """The least trap in which a state lies."""
    return closed_around(net, (state, state))


def _last_within(net, trap):
    """The ends to which the next ends lead from a trap on; any value that is none is refused."""
    words = one_way_words(net)
    if not _holds(net, words, trap):
        raise InvalidQuestion(1)
    return ends_led_to(net, words, trap)


def rest_within(net, trap):
    """The rest to which a net comes from all pasts within a trap, None if there are several."""
    lows, highs = _last_within(net, trap)
    return lows if lows == highs else None


def toggle_within(net, trap):
    """The ends that can be shown in turns for ever within a trap, None if there are none."""
    ends = _last_within(net, trap)
    return None if ends[0] == ends[1] else ends

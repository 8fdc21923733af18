"""Open parts: nets some of whose houses show what somebody outside wants."""

from newsbehind.endrounds import EndWants
from newsbehind.ends import widest_ends
from newsbehind.errors import InvalidQuestion
from newsbehind.nets import fixed, with_rule
from newsbehind.ways import are_one_way, one_way_words


def open_wants(net, inputs):
    """What all ends want, the inputs hearing nobody; refused if another house has a branch that goes both ways."""
    for house in inputs:
        net = fixed(net, house, 0)
    if not are_one_way(net):
        raise InvalidQuestion(1)
    return EndWants(net, one_way_words(net), widest_ends(net))


def ends_given(net, inputs, ends):
    """The ends to which rounds from below and above lead if the inputs keep these."""
    reckoned = open_wants(net, inputs)
    lows, highs = widest_ends(net)
    for house, low, high in zip(inputs, ends[0], ends[1]):
        lows = lows[:house] + (low,) + lows[house + 1:]
        highs = highs[:house] + (high,) + highs[house + 1:]
    return reckoned.settled((lows, highs), inputs)


def given_net(net, inputs, ends):
    """A net in which the inputs show these ends, whatever is outside."""
    for house, low, high in zip(inputs, ends[0], ends[1]):
        # An input with two ends hears itself and goes down at its high end, so it shows both in turns.
        rule = ("is", low) if low == high else ("bar", high, high, low, ("hear", house))
        net = with_rule(net, house, rule)
    return net

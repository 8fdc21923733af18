"""Sure worths: to which worths houses come whatever the inputs show."""

from newsbehind.boxes import box_of
from newsbehind.nets import with_rule
from newsbehind.restpapers import is_row_of_ends, lead_on
from newsbehind.ways import one_way_words


def sure_ends(net, inputs):
    """The ends to which rounds lead if each of the inputs keeps 0 and its top."""
    return box_of(net, inputs).ends


def _alike(ends, inputs):
    """The houses that are no inputs and whose low and high are the same, ascending."""
    lows, highs = ends
    return [house for house, low in enumerate(lows) if low == highs[house] and house not in inputs]


def sure_houses(net, inputs):
    """The houses that come to one worth whatever the inputs show, ascending."""
    return tuple(_alike(sure_ends(net, inputs), inputs))


def all_sure(net, inputs):
    """Whether all houses that are no inputs come to one worth whatever the inputs show."""
    return box_of(net, inputs).all_rest()


def is_sure_paper(net, inputs, value):
    """Whether any value is a paper that shows that all others come to one worth whatever the inputs show."""
    one_way_words(net)
    if not is_row_of_ends(net, value):
        return False
    # An input that hears itself alone keeps the ends of the first entry, 0 and its top.
    for house in inputs:
        net = with_rule(net, house, ("hear", house))
    if not lead_on(net, one_way_words(net), value):
        return False
    return len(_alike(value[-1], inputs)) + len(inputs) == len(net[0])

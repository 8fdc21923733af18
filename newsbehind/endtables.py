"""Tables of ends: what a part tells at its outputs for all ends of its inputs."""

from newsbehind.boxes import widest_box
from newsbehind.ends import lie_within
from newsbehind.errors import Refused
from newsbehind.openparts import open_wants

MOST_ENDS = 400


def _ends_count(net, inputs):
    """How many ends the inputs can have."""
    many = 1
    for house in inputs:
        top = net[0][house]
        many *= (top + 1) * (top + 2) // 2
    return many


def _with_each(box, house):
    """The boxes with each low and high of one input."""
    boxes = []
    wide = box
    # Each box is made of one that is hardly wider, so that little is left to be reckoned.
    for high in range(box.kept[house][1], -1, -1):
        wide = wide.with_input(house, 0, high)
        narrow = wide
        for low in range(high + 1):
            narrow = narrow.with_input(house, low, high)
            boxes.append(narrow)
    return boxes


def _ends_of(ends, houses):
    """The ends of some houses, in order."""
    lows, highs = ends
    return tuple([lows[house] for house in houses]), tuple([highs[house] for house in houses])


def ends_table(net, inputs, outputs):
    """For all ends that the inputs can have a pair of these and the ends of the outputs, ascending."""
    reckoned = open_wants(net, inputs)
    many = _ends_count(net, inputs)
    if many > MOST_ENDS:
        raise Refused(many)
    boxes = [widest_box(net, reckoned, inputs)]
    for house in inputs:
        boxes = [narrow for box in boxes for narrow in _with_each(box, house)]
    return tuple(sorted([(_ends_of(box.ends, inputs), _ends_of(box.ends, outputs)) for box in boxes]))


def is_within(one, other):
    """Whether ends lie within others of as many houses."""
    return lie_within(one, other)


def unlike_row(table, other):
    """The first ends of inputs for which two tables tell unlike ones, None if there are none."""
    for row, other_row in zip(table, other):
        if row != other_row:
            return row[0]
    return None

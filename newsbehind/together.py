"""Nets put together of parts, and what comes of the whole, by the tables of the parts alone."""

from newsbehind.basics import MOST_HOUSES
from newsbehind.errors import InvalidNet
from newsbehind.nets import with_rule
from newsbehind.ruleforms import renamed_rule


def put_together(first, second, ties):
    """The net of two nets, the houses of the second one counting on, in which some houses hear what ties tell."""
    many = len(first[0])
    if many + len(second[0]) > MOST_HOUSES:
        raise InvalidNet(0)
    names = [many + house for house in range(len(second[0]))]
    net = first[0] + second[0], first[1] + tuple([renamed_rule(rule, names) for rule in second[1]])
    for house, other in ties:
        net = with_rule(net, house, ("hear", other))
    return net


def _input_tops(table):
    """The tops of the inputs of a table: no ends stand behind those of which both are the tops."""
    return table[-1][0][1]


def _ends_brought(told, places, tops):
    """The ends that inputs with these tops get from the outputs at these places."""
    lows, highs = told
    return (
        tuple([min(lows[place], top) for place, top in zip(places, tops)]),
        tuple([min(highs[place], top) for place, top in zip(places, tops)]),
    )


def joined_ends(first, second, heard, brought):
    """The pair of the ends of the outputs of two parts with these tables, if their inputs hear one another's."""
    first_told = dict(first)
    second_told = dict(second)
    tops, other_tops = _input_tops(first), _input_tops(second)
    ends, other_ends = ((0,) * len(tops), tops), ((0,) * len(other_tops), other_tops)
    before = None
    while before != (ends, other_ends):
        before = (ends, other_ends)
        outputs, other_outputs = first_told[ends], second_told[other_ends]
        ends = _ends_brought(other_outputs, heard, tops)
        other_ends = _ends_brought(outputs, brought, other_tops)
    return outputs, other_outputs

"""Nets: houses with tops and rules, what they want, and who hears whom."""

from newsbehind.basics import MOST_HOUSES, MOST_NUMBER, are_integers_in, is_integer_in
from newsbehind.errors import InvalidNet
from newsbehind.ruleforms import renamed_rule
from newsbehind.rules import branches, is_rule, told


def _are_tops(values):
    return 1 <= len(values) <= MOST_HOUSES and are_integers_in(values, 0, MOST_NUMBER)


def _are_rules(values, houses):
    """Whether the entries of a list or tuple are the rules for a net of so many houses."""
    if len(values) != houses:
        return False
    return all(is_rule(entry) and max(branches(entry), default=0) < houses for entry in values)


def is_net(value):
    """Whether any value is a net."""
    if not isinstance(value, tuple) or len(value) != 2:
        return False
    tops, rules = value
    if not isinstance(tops, tuple) or not isinstance(rules, tuple):
        return False
    return _are_tops(tops) and _are_rules(rules, len(tops))


def is_state(net, value):
    """Whether any value is a state of a net."""
    if not isinstance(value, tuple) or len(value) != len(net[0]):
        return False
    return all(is_integer_in(worth, 0, top) for worth, top in zip(value, net[0]))


def net_of(tops, rules):
    """The net with these tops and rules, sequences."""
    if not isinstance(tops, (list, tuple)) or not _are_tops(tops):
        raise InvalidNet(0)
    if not isinstance(rules, (list, tuple)) or not _are_rules(rules, len(tops)):
        raise InvalidNet(1)
    return tuple(tops), tuple(rules)


def wanted(net, house, heard):
    """What a house wants if its branches, in order, bring what was heard."""
    return min(told(net[1][house], heard), net[0][house])


def heard_in(net, house, state):
    """What the branches of a house hear in a state."""
    return tuple([state[other] for other in branches(net[1][house])])


def next_state(net, state):
    """The state in which each house shows what it wants, all hearing this state."""
    return tuple([wanted(net, house, heard_in(net, house, state)) for house in range(len(net[0]))])


def is_rest(net, state):
    """Whether in a state each house shows what it wants."""
    return next_state(net, state) == state


def with_rule(net, house, rule):
    """The net in which a house has another rule."""
    tops, rules = net
    return tops, rules[:house] + (rule,) + rules[house + 1:]


def fixed(net, house, worth):
    """The net in which a house always wants this worth."""
    return with_rule(net, house, ("is", worth))


def renamed_state(state, names):
    """The state in which house names[i] shows what house i shows in this one."""
    placed = {names[house]: worth for house, worth in enumerate(state)}
    return tuple([placed[house] for house in range(len(state))])


def renamed_net(net, names):
    """The net in which house i is called names[i]."""
    tops, rules = net
    placed = {names[house]: renamed_rule(rule, names) for house, rule in enumerate(rules)}
    return renamed_state(tops, names), tuple([placed[house] for house in range(len(rules))])


def hearers(net, house):
    """The houses with a branch that hears a house, ascending."""
    return tuple([other for other, rule in enumerate(net[1]) if house in branches(rule)])


def reached(net, house):
    """The houses that news of a house can come to, by one branch or more, ascending."""
    found = set()
    waiting = [house]
    while waiting:
        here = waiting.pop()
        for other in hearers(net, here):
            if other not in found:
                found.add(other)
                waiting.append(other)
    return tuple(sorted(found))


def knots(net):
    """The greatest lots of houses of which news of each comes to each other one, ascending."""
    houses = range(len(net[0]))
    reach = [reached(net, house) for house in houses]
    lots = []
    for house in houses:
        lot = [other for other in houses if other == house or (other in reach[house] and house in reach[other])]
        if lot[0] == house:
            lots.append(tuple(lot))
    return tuple(lots)

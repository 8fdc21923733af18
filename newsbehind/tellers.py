"""Tellers: rules made ready for being asked again and again.

A teller is a function of a row of worths: what a rule tells if each of its branches brings the worth at its place.
"""

from newsbehind.ruleforms import inner_rules
from newsbehind.rules import TELLING, branches


def _still(worth):
    return lambda worths: worth


def _heard(place):
    return lambda worths: worths[place]


def _made_of(rule, tellers):
    tell_rule = TELLING[rule[0]]
    return lambda worths: tell_rule(rule, [tell(worths) for tell in tellers])


def _teller_from(rule, places, at):
    """A pair: the teller of a rule whose first branch is the one with the number at, and the number behind its last."""
    word = rule[0]
    if word == "is":
        return _still(rule[1]), at
    if word == "hear":
        return _heard(places[at]), at + 1
    first = at
    tellers = []
    for part in inner_rules(rule):
        tell, at = _teller_from(part, places, at)
        tellers.append(tell)
    made = _made_of(rule, tellers)
    # A rule without branches tells one thing for ever; it is asked once, now.
    return _still(made(())) if at == first else made, at


def teller(rule, places):
    """The teller of a rule, places telling for each of its branches which worth of the row it brings."""
    return _teller_from(rule, places, 0)[0]


def state_tellers(net):
    """For each house the teller of its rule, of rows that are states of the net."""
    return [teller(rule, branches(rule)) for rule in net[1]]

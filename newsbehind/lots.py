"""Lots: which worths each house can still want, whatever the rules, round by round."""

from newsbehind.lotrounds import rounds_of_lots
from newsbehind.rowtables import check_rows, wants_over
from newsbehind.rules import branches


def first_lots(net):
    """All worths of each house."""
    return tuple([tuple(range(top + 1)) for top in net[0]])


def _check_all_rows(net):
    for house in range(len(net[0])):
        check_rows(net, house)


def lots_next(net, lots):
    """For each house all that it wants if each branch, on its own, brings any worth of the lot it hears."""
    _check_all_rows(net)
    following = []
    for house, rule in enumerate(net[1]):
        wants = wants_over(net, house, [lots[other] for other in branches(rule)])
        following.append(tuple(sorted(set(wants))))
    return tuple(following)


def lot_rounds(net):
    """The first lots, the next ones and so on, up to the first that stay what they are."""
    _check_all_rows(net)
    return rounds_of_lots(net, first_lots(net))


def last_lots(net):
    """The last ones of the rounds of lots."""
    return lot_rounds(net)[-1]


def known_rounds(net):
    """For each house the index of the first round in which its lot has one worth alone, None if none has."""
    rounds = lot_rounds(net)
    known = [None] * len(net[0])
    for index, lots in enumerate(rounds):
        for house, lot in enumerate(lots):
            if len(lot) == 1 and known[house] is None:
                known[house] = index
    return tuple(known)


def is_sure(net):
    """Whether all last lots have one worth alone."""
    return all(len(lot) == 1 for lot in last_lots(net))

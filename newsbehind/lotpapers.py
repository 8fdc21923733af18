"""Papers of lots: lots whose worths bring one another about for ever, and the runs that show it."""

from newsbehind.basics import MOST_NUMBER, are_integers_in, is_ascending
from newsbehind.errors import InvalidQuestion
from newsbehind.lots import last_lots
from newsbehind.rowtables import row_at, row_places, wants_over
from newsbehind.rules import branches
from newsbehind.tellers import teller


def _are_lots(net, value):
    """Whether any value is lots of a net."""
    if not isinstance(value, tuple) or len(value) != len(net[0]):
        return False
    return all(is_ascending(lot, 0, top) and len(lot) > 0 for lot, top in zip(value, net[0]))


def _can_be_brought(row, houses, members):
    """Whether any value is a row with a worth of the lot of each of these houses, lots being given as dicts."""
    if not isinstance(row, tuple) or len(row) != len(houses) or not are_integers_in(row, 0, MOST_NUMBER):
        return False
    return all(worth in members[house] for worth, house in zip(row, houses))


def _give_reasons(net, house, lot, rows, members):
    """Whether any value tells for each worth of the lot of a house a row of the lots hearing which it wants it."""
    if not isinstance(rows, tuple) or len(rows) != len(lot):
        return False
    rule = net[1][house]
    heard = branches(rule)
    tell = teller(rule, tuple(range(len(heard))))
    for worth, row in zip(lot, rows):
        if not _can_be_brought(row, heard, members) or min(tell(row), net[0][house]) != worth:
            return False
    return True


def is_lot_paper(net, value):
    """Whether any value is a paper that shows lots that never come to rest."""
    if not isinstance(value, tuple) or len(value) != 2:
        return False
    lots, reasons = value
    if not _are_lots(net, lots) or not isinstance(reasons, tuple) or len(reasons) != len(lots):
        return False
    if max([len(lot) for lot in lots]) < 2:
        return False
    members = [{worth: True for worth in lot} for lot in lots]
    return all(_give_reasons(net, house, lots[house], rows, members) for house, rows in enumerate(reasons))


def _reasons(net, house, lots):
    """For each worth of the lot of a house, the first row of the lots hearing which it wants it."""
    heard = [lots[other] for other in branches(net[1][house])]
    first = {}
    for at, worth in enumerate(wants_over(net, house, heard)):
        first.setdefault(worth, at)
    last = [len(lot) - 1 for lot in heard]
    places = row_places(last)
    rows = []
    for worth in lots[house]:
        indexes = row_at(last, places, first[worth])
        rows.append(tuple([lot[index] for lot, index in zip(heard, indexes)]))
    return tuple(rows)


def lot_paper(net):
    """A paper whose lots are the last ones, None if these have one worth each."""
    lots = last_lots(net)
    if max([len(lot) for lot in lots]) < 2:
        return None
    return lots, tuple([_reasons(net, house, lots) for house in range(len(lots))])


def _lateness_at(net, paper, beat):
    """The least lateness with which each house hears what the row for the worth that it shows at a beat wants."""
    lots, reasons = paper
    lateness = []
    for rule, lot, rows in zip(net[1], lots, reasons):
        row = rows[beat % len(lot)]
        heard = [lots[other] for other in branches(rule)]
        # A house shows the worth with some index last so many beats ago as its turn is past it, at least one.
        late = [(beat - shown.index(worth) - 1) % len(shown) + 1 for shown, worth in zip(heard, row)]
        lateness.append(tuple(late))
    return tuple(lateness)


def restless_run(net, paper, late, beats):
    """The loose run in which each house shows the worths of its lot in turns."""
    lots = paper[0]
    if max([len(lot) for lot in lots]) > late:
        raise InvalidQuestion(2)
    past = tuple([tuple([lot[beat % len(lot)] for lot in lots]) for beat in range(-late, 0)])
    return past, tuple([_lateness_at(net, paper, beat) for beat in range(beats)])

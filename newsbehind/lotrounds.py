"""Rounds of lots, by what is lost in each: a worth is lost as soon as no row is left that a house wants it for."""

from newsbehind.rowtables import all_wants, row_places, tops_heard
from newsbehind.rules import branches


class Rows:
    """The rows of worths that the branches of a house can still bring, and what it wants hearing them."""

    def __init__(self, net, house):
        self.heard = branches(net[1][house])
        self.tops = tops_heard(net, house)
        self.places = row_places(self.tops)
        self.wants = all_wants(net, house)
        self.left = [True] * len(self.wants)
        self.counts = {worth: 0 for worth in range(net[0][house] + 1)}
        for worth in self.wants:
            self.counts[worth] += 1

    def never_wanted(self):
        """The worths that the house wants for none of its rows."""
        return [worth for worth, count in self.counts.items() if count == 0]

    def lose_rows(self, branch, brought):
        """Takes away the rows in which a branch brings this; the worths that are wanted for none any more."""
        place = self.places[branch]
        unwanted = []
        for start in range(brought * place, len(self.wants), place * (self.tops[branch] + 1)):
            for at in range(start, start + place):
                if self.left[at]:
                    self.left[at] = False
                    worth = self.wants[at]
                    self.counts[worth] -= 1
                    if self.counts[worth] == 0:
                        unwanted.append(worth)
        return unwanted

    def lose(self, other, worth):
        """Takes away the rows with this worth of a house; the worths that are wanted for none any more."""
        unwanted = []
        for branch, heard in enumerate(self.heard):
            if heard == other:
                unwanted.extend(self.lose_rows(branch, worth))
        return unwanted


def _without(lots, lost):
    """The lots without the pairs (house, worth) that are lost."""
    gone = {}
    for house, worth in lost:
        gone.setdefault(house, {})[worth] = True
    left = list(lots)
    for house, worths in gone.items():
        left[house] = tuple([worth for worth in lots[house] if worth not in worths])
    return tuple(left)


def _lost_behind(rows, lost):
    """The pairs (house, worth) that are lost next, as no row with what is lost now can be brought any more."""
    behind = []
    for other, worth in lost:
        for house, own_rows in enumerate(rows):
            behind.extend([(house, unwanted) for unwanted in own_rows.lose(other, worth)])
    return behind


def rounds_of_lots(net, lots):
    """The first lots of a net, the next ones and so on, up to the first that stay."""
    rows = [Rows(net, house) for house in range(len(net[0]))]
    rounds = [lots]
    lost = [(house, worth) for house, own_rows in enumerate(rows) for worth in own_rows.never_wanted()]
    while lost:
        rounds.append(_without(rounds[-1], lost))
        lost = _lost_behind(rows, lost)
    return tuple(rounds)

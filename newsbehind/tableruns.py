"""Late runs of table nets, and the runs in which a swing never rests."""

from math import lcm

from newsbehind.basics import LEAST_OLD, MOST_LOOSE_BEATS, MOST_OLD
from newsbehind.lateness import first_wrong
from newsbehind.ratios import fraction, is_fraction, over_common, ratio_sum
from newsbehind.tablenets import table_branches
from newsbehind.tablerests import some_rest


def _is_table_state(value, many):
    return isinstance(value, tuple) and len(value) == many and all(is_fraction(entry) for entry in value)


def is_table_run(net, value):
    """Whether any value is a late run of a table net."""
    if not isinstance(value, tuple) or len(value) != 2:
        return False
    past, latenesses = value
    many = len(net[0])
    if not isinstance(past, tuple) or not LEAST_OLD <= len(past) <= MOST_OLD:
        return False
    if not all(_is_table_state(state, many) for state in past):
        return False
    if not isinstance(latenesses, tuple) or len(latenesses) > MOST_LOOSE_BEATS:
        return False
    counts = [len(table_branches(net, house)) for house in range(many)]
    return first_wrong(counts, len(past), latenesses) is None


class Sums:
    """The states of a run so far, each a list of integers over one denominator for all."""

    def __init__(self, net, past):
        self.many = len(net[0])
        self.houses = []
        self.whole = 1
        for house in range(self.many):
            heard = table_branches(net, house)
            entries, common = over_common([net[0][house][other] for other in heard] + [net[1][house]])
            self.houses.append((heard, entries[:-1], entries[-1], common))
            self.whole = lcm(self.whole, common)
        worths, self.common = over_common([worth for state in past for worth in state])
        self.states = [worths[at:at + self.many] for at in range(0, len(worths), self.many)]

    def next_state(self, lateness):
        """The fractions that are shown at the next beat."""
        shown = []
        worths = []
        for (heard, entries, add, common), row in zip(self.houses, lateness):
            total = add * self.common
            for other, entry, late in zip(heard, entries, row):
                total += entry * self.states[-late][other]
            shown.append(fraction(total, common * self.common))
            worths.append(total * (self.whole // common))
        self.common *= self.whole
        self.states = [[worth * self.whole for worth in state] for state in self.states[1:]] + [worths]
        return tuple(shown)


def table_states(net, run):
    """The states at the beats of a late run."""
    past, latenesses = run
    sums = Sums(net, past)
    return tuple([sums.next_state(lateness) for lateness in latenesses])


def swing_run(net, swing, beats):
    """The run around some rest in which a swing is shown again and again; None if there is no rest."""
    rest = some_rest(net)
    if rest is None:
        return None
    above = tuple([ratio_sum(worth, (number, 1)) for worth, number in zip(rest, swing)])
    below = tuple([ratio_sum(worth, (-number, 1)) for worth, number in zip(rest, swing)])
    lateness = tuple([tuple([2 if entry[0] > 0 else 1 for entry in row if entry[0] != 0]) for row in net[0]])
    return (above, below), (lateness,) * beats

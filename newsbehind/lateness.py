"""Pasts, lateness and runs: how old the news is that houses hear."""

from newsbehind.basics import are_integers_in
from newsbehind.nets import is_state
from newsbehind.rules import branches


def is_past(net, d, value):
    """Whether any value is a tuple of d states of a net."""
    if not isinstance(value, tuple) or len(value) != d:
        return False
    return all(is_state(net, entry) for entry in value)


def branch_counts(net):
    """For each house how many branches its rule has."""
    return [len(branches(rule)) for rule in net[1]]


def fits_counts(counts, d, value):
    """Whether any value is a lateness for houses with so many branches."""
    if not isinstance(value, tuple) or len(value) != len(counts):
        return False
    for row, count in zip(value, counts):
        if not isinstance(row, tuple) or len(row) != count or not are_integers_in(row, 1, d):
            return False
    return True


def is_lateness(net, d, value):
    """Whether any value is a lateness for d."""
    return fits_counts(branch_counts(net), d, value)


def can_follow(lateness, later):
    """Whether at no branch the later lateness goes back to older news."""
    for row, later_row in zip(lateness, later):
        for late, later_late in zip(row, later_row):
            if later_late > late + 1:
                return False
    return True


def first_wrong(counts, d, latenesses):
    """The index of the first entry that is no lateness or may not follow, None if there is none."""
    for at, entry in enumerate(latenesses):
        if not fits_counts(counts, d, entry):
            return at
        if at > 0 and not can_follow(latenesses[at - 1], entry):
            return at
    return None


def run_fault(net, d, value):
    """None if any value is a run, otherwise the number that tells where it is wrong."""
    if not isinstance(value, tuple) or len(value) != 2 or not is_past(net, d, value[0]):
        return 0
    if not isinstance(value[1], tuple):
        return 1
    wrong = first_wrong(branch_counts(net), d, value[1])
    return None if wrong is None else wrong + 2


def is_run(net, d, value):
    """Whether any value is a run for d."""
    return run_fault(net, d, value) is None

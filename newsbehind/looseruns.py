"""Loose runs: runs in which news may overtake news."""

from newsbehind.basics import LEAST_OLD, MOST_LOOSE_BEATS, MOST_OLD
from newsbehind.beats import shown_at_beats
from newsbehind.lateness import branch_counts, fits_counts, is_past


def is_loose_run(net, value):
    """Whether any value is a loose run of a net."""
    if not isinstance(value, tuple) or len(value) != 2:
        return False
    past, latenesses = value
    if not isinstance(past, tuple) or not LEAST_OLD <= len(past) <= MOST_OLD or not is_past(net, len(past), past):
        return False
    if not isinstance(latenesses, tuple) or len(latenesses) > MOST_LOOSE_BEATS:
        return False
    counts = branch_counts(net)
    return all(fits_counts(counts, len(past), entry) for entry in latenesses)


def loose_states(net, run):
    """The states that are shown at the beats of a loose run."""
    past, latenesses = run
    return shown_at_beats(net, past, latenesses)

"""Stopped runs: runs in which not all houses move at each beat."""

from newsbehind.basics import is_ascending
from newsbehind.beats import houses_heard, wanted_late
from newsbehind.lateness import branch_counts, fits_counts, is_past


def _are_beats(counts, d, value):
    """Whether any value is a tuple of pairs of movers and a lateness, for houses with so many branches."""
    if not isinstance(value, tuple):
        return False
    for entry in value:
        if not isinstance(entry, tuple) or len(entry) != 2:
            return False
        movers, lateness = entry
        if not is_ascending(movers, 0, len(counts) - 1) or not fits_counts(counts, d, lateness):
            return False
    return True


def _moves_of(house, beats):
    """The pairs of a beat at which a house moves and how late its branches hear there."""
    return [(beat, lateness[house]) for beat, (movers, lateness) in enumerate(beats) if house in movers]


def _moves_in_time(moves, e, many):
    """Whether in each e beats running, of so many, there is one of these moves."""
    ahead = -1
    for beat, _ in moves:
        if beat - ahead > e:
            return False
        ahead = beat
    return many - ahead <= e


def _hears_on(moves):
    """Whether from move to move no branch goes back to older news."""
    for (ahead, row), (beat, later_row) in zip(moves, moves[1:]):
        if any(later_late > late + beat - ahead for late, later_late in zip(row, later_row)):
            return False
    return True


def is_stopped_run(net, d, e, value):
    """Whether any value is a stopped run, in which each house moves in each e beats running."""
    if not isinstance(value, tuple) or len(value) != 2:
        return False
    past, beats = value
    if not is_past(net, d, past) or not _are_beats(branch_counts(net), d, beats):
        return False
    for house in range(len(net[0])):
        moves = _moves_of(house, beats)
        if not _moves_in_time(moves, e, len(beats)) or not _hears_on(moves):
            return False
    return True


def stopped_shown(net, d, run):
    """The states that are shown at the beats of a stopped run."""
    past, beats = run
    heard_houses = houses_heard(net)
    states = list(past)
    for movers, lateness in beats:
        state = list(states[-1])
        for house in movers:
            state[house] = wanted_late(net, house, heard_houses[house], states, lateness[house])
        states.append(tuple(state))
    return tuple(states[d:])

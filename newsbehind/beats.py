"""Beats: what is shown in runs, and runs that are led on."""

from newsbehind.errors import InvalidRun
from newsbehind.lateness import run_fault
from newsbehind.nets import wanted
from newsbehind.rules import branches


def houses_heard(net):
    """For each house the houses that its branches hear."""
    return [branches(rule) for rule in net[1]]


def wanted_late(net, house, others, states, row):
    """What a house wants behind these states, the newest one last, if its branches hear the others so late."""
    return wanted(net, house, tuple([states[-late][other] for other, late in zip(others, row)]))


def _shown_behind(net, heard_houses, states, lateness):
    """The state that is shown behind these, the newest one last; heard_houses are the branches of each house."""
    return tuple([
        wanted_late(net, house, others, states, lateness[house]) for house, others in enumerate(heard_houses)
    ])


def shows_next(net, past, lateness):
    """The state that is shown behind a past, if news is so late."""
    return _shown_behind(net, houses_heard(net), past, lateness)


def shown_at_beats(net, past, latenesses):
    """The states that are shown at the beats with these latenesses, behind this past."""
    heard_houses = houses_heard(net)
    states = list(past)
    for lateness in latenesses:
        states.append(_shown_behind(net, heard_houses, states, lateness))
    return tuple(states[len(past):])


def shown(net, d, run):
    """The states that are shown at the beats of a run."""
    at = run_fault(net, d, run)
    if at is not None:
        raise InvalidRun(at)
    past, latenesses = run
    return shown_at_beats(net, past, latenesses)


def past_behind(net, d, run):
    """The last d states that stand behind a run."""
    states = run[0] + shown(net, d, run)
    return states[-d:]


def led_on(net, d, run, latenesses):
    """The run with these latenesses behind its own."""
    if not isinstance(latenesses, tuple):
        raise InvalidRun(1)
    longer = (run[0], run[1] + latenesses)
    at = run_fault(net, d, longer)
    if at is not None:
        raise InvalidRun(at)
    return longer

"""Stopped runs as plain ones: a house that stops does nothing but make news older."""

from newsbehind.stops import stopped_shown


def _older(row):
    """The row that tells the same news a beat later, None for a house that has not moved yet."""
    return None if row is None else tuple([late + 1 for late in row])


def _latenesses(net, beats):
    """For each beat and house how old what it heard at its last move is by then, None if it has not moved yet."""
    rows = [None] * len(net[0])
    latenesses = []
    for movers, lateness in beats:
        rows = [lateness[house] if house in movers else _older(row) for house, row in enumerate(rows)]
        latenesses.append(tuple(rows))
    return tuple(latenesses)


def plain_run(net, d, e, run):
    """The run for d + e - 1 that shows what a stopped run shows from beat e - 1 on."""
    past, beats = run
    behind = past + stopped_shown(net, d, (past, beats[:e - 1]))
    return behind, _latenesses(net, beats)[e - 1:]

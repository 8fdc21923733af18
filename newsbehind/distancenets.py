"""Distances: nets in which each place shows how far it believes the goal to be."""

from newsbehind.ends import rounds_needed


def _distance_rule(lengths, goal, top, place):
    if place == goal:
        return "is", 0
    ways_on = [("add", (("is", length), ("hear", v))) for u, v, length in lengths if u == place]
    return ("least", tuple(ways_on)) if ways_on else ("is", top)


def distance_net(n, lengths, goal, top):
    """The net in which each place shows the least sum of a length and what the place behind it shows."""
    return (top,) * n, tuple([_distance_rule(lengths, goal, top, place) for place in range(n)])


def distances(n, lengths, goal, top):
    """For each place the least sum of lengths of a way to the goal, the top if it is less or there is no way."""
    far = [0 if place == goal else top for place in range(n)]
    # A shortest way comes to no place twice, so it has less than n lengths.
    for _ in range(n):
        for u, v, length in lengths:
            far[u] = min(far[u], far[v] + length)
    return tuple(far)


def slow_rounds(n, lengths, goal, top):
    """How many rounds the net of these lengths needs."""
    return rounds_needed(distance_net(n, lengths, goal, top))

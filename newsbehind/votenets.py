"""Votes: houses that show 1 if enough of those linked with them do."""

from newsbehind.ends import last_ends
from newsbehind.nets import fixed


def _linked(n, links):
    """For each house those that are linked with it, ascending."""
    rows = [[] for _ in range(n)]
    for u, v in links:
        rows[u].append(v)
        rows[v].append(u)
    return [sorted(row) for row in rows]


def _vote_rule(linked, need):
    if need == 0:
        return "is", 1
    if not linked:
        return "is", 0
    return "bar", need, 0, 1, ("add", tuple([("hear", other) for other in linked]))


def vote_net(n, links, needs):
    """The net in which each house shows 1 if as many of those linked with it as it needs do."""
    return (1,) * n, tuple([_vote_rule(linked, need) for linked, need in zip(_linked(n, links), needs)])


def _lot_of(state):
    """The houses that show 1, ascending."""
    return tuple([house for house, worth in enumerate(state) if worth == 1])


def won(n, links, needs, seeds):
    """The houses that show 1 in the least rest if the seeds always do."""
    net = vote_net(n, links, needs)
    for house in seeds:
        net = fixed(net, house, 1)
    return _lot_of(last_ends(net)[0])


def standing_lots(n, links, needs):
    """The pair of the least and the greatest lot of houses that can show 1 at rest."""
    lows, highs = last_ends(vote_net(n, links, needs))
    return _lot_of(lows), _lot_of(highs)

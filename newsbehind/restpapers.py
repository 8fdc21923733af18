"""Papers of rest: ends within ends that lead to the one rest."""

from newsbehind.endrounds import EndWants
from newsbehind.ends import all_rounds, are_ends, lie_within, widest_ends
from newsbehind.ways import one_way_words


def rest_paper(net):
    """A tuple of ends that shows that a net rests always, None if it doesn't."""
    rounds = all_rounds(net)
    lows, highs = rounds[-1]
    return tuple(rounds) if lows == highs else None


def _holds(net, words, paper):
    """Whether ends lie within one another as those of a paper must."""
    if not lie_within(widest_ends(net), paper[0]):
        return False
    reckoned = EndWants(net, words, paper[0])
    for ends in paper[1:]:
        if not lie_within(reckoned.behind(), ends):
            return False
        reckoned.hear(ends)
    lows, highs = paper[-1]
    return lows == highs


def is_rest_paper(net, value):
    """Whether any value is a paper that shows that a net rests always."""
    words = one_way_words(net)
    if not isinstance(value, tuple) or len(value) == 0:
        return False
    return all(are_ends(net, entry) for entry in value) and _holds(net, words, value)

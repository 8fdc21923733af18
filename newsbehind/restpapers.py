"""Papers of rest: ends within ends that lead to the one rest."""

from newsbehind.endrounds import EndWants
from newsbehind.ends import all_rounds, are_ends, lie_within, widest_ends
from newsbehind.ways import one_way_words


def rest_paper(net):
    """A tuple of ends that shows that a net rests always, None if it doesn't."""
    rounds = all_rounds(net)
    lows, highs = rounds[-1]
    return tuple(rounds) if lows == highs else None


def lead_on(net, words, paper):
    """Whether the first ends lie within the first one of these, and the next ends of each within the one behind it."""
    if not lie_within(widest_ends(net), paper[0]):
        return False
    reckoned = EndWants(net, words, paper[0])
    for ends in paper[1:]:
        if not lie_within(reckoned.behind(), ends):
            return False
        reckoned.hear(ends)
    return True


def is_row_of_ends(net, value):
    """Whether any value is a tuple of one or more ends."""
    return isinstance(value, tuple) and len(value) > 0 and all(are_ends(net, entry) for entry in value)


def is_rest_paper(net, value):
    """Whether any value is a paper that shows that a net rests always."""
    words = one_way_words(net)
    if not is_row_of_ends(net, value) or not lead_on(net, words, value):
        return False
    lows, highs = value[-1]
    return lows == highs

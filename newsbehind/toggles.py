"""Toggles: ends that can be shown in turns for ever."""

from newsbehind.ends import are_ends, last_ends, next_ends
from newsbehind.ways import one_way_words


def toggle_ends(net):
    """Ends, not the same state twice, that are their own next ones; None if a net rests always."""
    ends = last_ends(net)
    return None if ends[0] == ends[1] else ends


def is_toggle(net, value):
    """Whether any value is ends, not the same state twice, that are their own next ones."""
    one_way_words(net)
    return are_ends(net, value) and value[0] != value[1] and next_ends(net, value) == value


def toggle_run(net, d, ends, beats):
    """The run of so many beats in which these ends are shown in turns."""
    words = one_way_words(net)
    lows, highs = ends
    # The highs stand last, an odd number of beats ahead of beat 0.
    past = tuple([highs if (d - at) % 2 == 1 else lows for at in range(d)])
    lateness = tuple([tuple([1 if word == "falls" else 2 for word in row]) for row in words])
    return past, (lateness,) * beats

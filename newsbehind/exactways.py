"""Ways of branches told by looking at all rows of worths."""

from newsbehind.rowtables import all_wants, check_rows, row_at, row_places, tops_heard


def _first_steps(wants, place, top):
    """The indexes of the first rows for which one more at a branch makes a house want more, and less; None for none."""
    rise = fall = None
    for at, worth in enumerate(wants):
        # A branch that brings the top already brings no more.
        if (at // place) % (top + 1) == top:
            continue
        later = wants[at + place]
        if later > worth and rise is None:
            rise = at
        if later < worth and fall is None:
            fall = at
    return rise, fall


def _word(rise, fall):
    if rise is None:
        return "none" if fall is None else "falls"
    return "rises" if fall is None else "both"


def exact_ways(net, house):
    """For each branch of a house's rule its word: "none", "rises", "falls" or "both"."""
    check_rows(net, house)
    wants = all_wants(net, house)
    tops = tops_heard(net, house)
    words = []
    for place, top in zip(row_places(tops), tops):
        rise, fall = _first_steps(wants, place, top)
        words.append(_word(rise, fall))
    return tuple(words)


def _shown_row(tops, at):
    """The row of worths with an index in the table, None for None."""
    return None if at is None else row_at(tops, row_places(tops), at)


def shown_ways(net, house, branch):
    """A pair of rows, or None, for which one more at a branch makes a house want more, want less."""
    check_rows(net, house)
    tops = tops_heard(net, house)
    rise, fall = _first_steps(all_wants(net, house), row_places(tops)[branch], tops[branch])
    return _shown_row(tops, rise), _shown_row(tops, fall)

"""All that can show, whatever the lateness; and runs with even news."""

from newsbehind.errors import Refused
from newsbehind.rowtables import wants_over
from newsbehind.rules import branches


def even_run(net, d, state, beats):
    """The run of so many beats whose past shows one state, and in which all lateness is 1."""
    lateness = tuple([(1,) * len(branches(rule)) for rule in net[1]])
    return (state,) * d, (lateness,) * beats


# From here on a lateness is one number, so that many take little room: its entries, less 1 each, as digits of base d.


def _digit_places(net, d, most):
    """For each branch the place of its digit, the first branch's first; refused if there are too many latenesses."""
    places = []
    place = 1
    for rule in net[1]:
        for _ in branches(rule):
            places.append(place)
            place *= d
    if place > most:
        raise Refused(most)
    return places[::-1]


def _later_ones(d, places):
    """For each lateness the greatest one that may follow it: one more at each branch, but d at most."""
    later = [0]
    for _ in places:
        later = [number * d + min(digit + 1, d - 1) for number in later for digit in range(d)]
    return later


def _following(latenesses, d, places, later):
    """All latenesses that may follow one of these."""
    found = {later[number]: True for number in latenesses}
    if len(later) - 1 in found:
        return list(range(len(later)))
    for place in places:
        for number in list(found):
            for less in range((number // place) % d):
                found[number - (less + 1) * place] = True
    return list(found)


def _states_behind(net, d, past):
    """The state that is shown behind a past, for each lateness."""
    newest_first = past[::-1]
    states = [()]
    for house, rule in enumerate(net[1]):
        wants = wants_over(net, house, [[state[other] for state in newest_first] for other in branches(rule)])
        states = [state + (worth,) for state in states for worth in wants]
    return states


def _pairs_behind(net, d, pairs, places, later, most):
    """For each past behind a beat its latenesses, all numbers of a dict; pairs are those of the beat ahead."""
    behind = {}
    many = 0
    for past, latenesses in pairs.items():
        states = _states_behind(net, d, past)
        for number in _following(latenesses, d, places, later):
            there = behind.setdefault(past[1:] + (states[number],), {})
            if number not in there:
                there[number] = True
                many += 1
        # Looked at past by past, so that far too many pairs are not all made.
        if many > most:
            raise Refused(most)
    return behind


def can_show(net, d, past, beat, most):
    """All states that are shown at a beat in some run from this past; refused if too much must be looked at."""
    places = _digit_places(net, d, most)
    later = _later_ones(d, places)
    # Behind the greatest lateness each one may follow, as at the first beat.
    pairs = {past: {len(later) - 1: True}}
    kept = pairs
    kept_at = at = 0
    left = beat + 1
    while left > 0:
        pairs = _pairs_behind(net, d, pairs, places, later, most)
        at += 1
        left -= 1
        if pairs == kept:
            # All comes again from here on, so whole turns are left out.
            left = left % (at - kept_at)
        elif at >= 2 * kept_at:
            kept = pairs
            kept_at = at
    return tuple(sorted({behind[-1] for behind in pairs}))

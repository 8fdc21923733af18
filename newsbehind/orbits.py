"""Even steps: where a net comes if all news is one beat old."""

from newsbehind.errors import Refused
from newsbehind.rests import check_states, state_count
from newsbehind.rowtables import row_at, row_places
from newsbehind.tellers import state_tellers


def _wanted_by_all(tellers, tops, state):
    return tuple([min(tell(state), top) for tell, top in zip(tellers, tops)])


def orbit(net, state, most):
    """A pair of tail and ring: the states that come once from a state on, and those that come again and again."""
    tellers = state_tellers(net)
    places = {}
    at = state
    while at not in places:
        if len(places) == most:
            raise Refused(most)
        places[at] = len(places)
        at = _wanted_by_all(tellers, net[0], at)
    states = list(places)
    return tuple(states[:places[at]]), tuple(states[places[at]:])


def _next_numbers(net):
    """For each state, in ascending order, the number of the one behind it."""
    tellers = state_tellers(net)
    tops = net[0]
    numbers = []
    state = [0] * len(tops)
    for _ in range(state_count(net)):
        number = 0
        for tell, top in zip(tellers, tops):
            number = number * (top + 1) + min(tell(state), top)
        numbers.append(number)
        at = len(tops) - 1
        while at >= 0 and state[at] == tops[at]:
            state[at] = 0
            at -= 1
        if at >= 0:
            state[at] += 1
    return numbers


def _numbered_rings(following):
    """Pairs of a ring of numbers and how many lead into it, if each number leads to the one that stands there."""
    ring_of = [None] * len(following)
    rings_found = []
    counts = []
    for start in range(len(following)):
        mark = len(rings_found)
        path = []
        at = start
        while ring_of[at] is None:
            ring_of[at] = mark
            path.append(at)
            at = following[at]
        ring = ring_of[at]
        if ring == mark:
            rings_found.append(path[path.index(at):])
            counts.append(0)
        for number in path:
            ring_of[number] = ring
        counts[ring] += len(path)
    return list(zip(rings_found, counts))


def rings(net, most):
    """For each ring a pair: its states, the least one first, and how many states lead into it."""
    check_states(net, most)
    places = row_places(net[0])
    told = []
    for numbers, count in _numbered_rings(_next_numbers(net)):
        first = numbers.index(min(numbers))
        turned = numbers[first:] + numbers[:first]
        told.append((tuple([row_at(net[0], places, number) for number in turned]), count))
    return tuple(sorted(told))

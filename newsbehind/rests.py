"""All rests of a net, and the rests of nets in which nothing falls."""

from newsbehind.endrounds import ends_led_to
from newsbehind.ends import last_ends
from newsbehind.errors import Refused
from newsbehind.nets import next_state
from newsbehind.ranges import house_range
from newsbehind.rules import branches
from newsbehind.tellers import state_tellers
from newsbehind.ways import are_one_way, ways


def state_count(net):
    """How many states a net has."""
    count = 1
    for top in net[0]:
        count *= top + 1
    return count


def check_states(net, most):
    """Refuses a net with too many states."""
    count = state_count(net)
    if count > most:
        raise Refused(count)


def _worths_of_rests(net):
    """For each house the worths among which are those of all rests."""
    if are_one_way(net):
        lows, highs = last_ends(net)
        pairs = list(zip(lows, highs))
    else:
        pairs = [house_range(net, house) for house in range(len(net[0]))]
    return [list(range(low, high + 1)) for low, high in pairs]


class Search:
    """Finds all rests: worths are tried house by house, and given up as soon as some house is known to want another."""

    def __init__(self, net):
        self.tops = net[0]
        self.tellers = state_tellers(net)
        self.worths = _worths_of_rests(net)
        # For each house those whose wants are known once it has a worth, being the last one that they hear or are.
        self.decided = [[] for _ in net[0]]
        for house, rule in enumerate(net[1]):
            self.decided[max(branches(rule) + (house,))].append(house)
        self.found = []

    def fits(self, state):
        """Whether the houses that the last worth of these settles want what they show."""
        for house in self.decided[len(state) - 1]:
            tell = self.tellers[house]
            if min(tell(state), self.tops[house]) != state[house]:
                return False
        return True

    def go_on(self, state):
        """Finds all rests that begin with these worths."""
        if len(state) == len(self.tops):
            self.found.append(state)
            return
        for worth in self.worths[len(state)]:
            longer = state + (worth,)
            if self.fits(longer):
                self.go_on(longer)


def rests(net, most):
    """All rests of a net, ascending; refused if there are more than so many states."""
    check_states(net, most)
    search = Search(net)
    search.go_on(())
    return tuple(search.found)


def _first_not_rising(net):
    """The least house with a branch that may fall, None if there is none."""
    for house in range(len(net[0])):
        if any(word not in ("rises", "none") for word in ways(net, house)):
            return house
    return None


def is_rising(net):
    """Whether in a net nothing falls."""
    return _first_not_rising(net) is None


def _check_rising(net):
    house = _first_not_rising(net)
    if house is not None:
        raise Refused(house)


def least_rest(net):
    """The least rest of a net in which nothing falls."""
    _check_rising(net)
    return last_ends(net)[0]


def greatest_rest(net):
    """The greatest rest of a net in which nothing falls."""
    _check_rising(net)
    return last_ends(net)[1]


def climb(net, state):
    """The rest to which a state leads if all houses want no less than they show in it, or no more; else None."""
    _check_rising(net)
    following = next_state(net, state)
    rises = all(later >= worth for worth, later in zip(state, following))
    if not rises and not all(later <= worth for worth, later in zip(state, following)):
        return None
    words = [ways(net, house) for house in range(len(state))]
    # As nothing falls, lows hear lows alone: both ends go the way of the state, whether up or down.
    return ends_led_to(net, words, (state, state))[0]

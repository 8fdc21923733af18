"""Rounds of ends: what both ends of all houses want, reckoned anew only where something that they hear turned."""

from newsbehind.rules import branches
from newsbehind.tellers import teller
from newsbehind.ways import end_rows


def _places_heard(net, words):
    """For each low end, then for each high one, the places of the ends that its branches hear."""
    many = len(net[0])
    lows = list(range(many))
    highs = list(range(many, 2 * many))
    pairs = [end_rows(branches(rule), row, lows, highs) for rule, row in zip(net[1], words)]
    return [pair[0] for pair in pairs] + [pair[1] for pair in pairs]


class EndWants:
    """What each end wants hearing a row of worths: the lows of all houses, then their highs."""

    def __init__(self, net, words, ends):
        heard = _places_heard(net, words)
        self.many = len(net[0])
        self.tops = net[0] + net[0]
        self.tellers = [teller(rule, places) for rule, places in zip(net[1] + net[1], heard)]
        self.hearers = [[end for end in range(len(heard)) if place in heard[end]] for place in range(len(heard))]
        self.row = ends[0] + ends[1]
        self.wants = tuple([min(tell(self.row), top) for tell, top in zip(self.tellers, self.tops)])

    def hear(self, ends):
        """Lets all hear these ends instead of those before."""
        row = ends[0] + ends[1]
        turned = [place for place, worth in enumerate(row) if worth != self.row[place]]
        wants = list(self.wants)
        for end in self.hearing(turned):
            tell = self.tellers[end]
            wants[end] = min(tell(row), self.tops[end])
        self.row = row
        self.wants = tuple(wants)

    def behind(self):
        """The next ends of those that are heard."""
        return self.wants[:self.many], self.wants[self.many:]

    def stays(self):
        """Whether the ends that are heard are their own next ones."""
        return self.wants == self.row

    def hearing(self, places):
        """The places of the ends that hear one of these places, ascending."""
        return sorted({hearer for place in places for hearer in self.hearers[place]})

    def led_on(self, row, held, waiting):
        """The ends to which a row leads if those of the held houses stay; the waiting ones may want something else.

        Each end is taken to what it wants as soon as that is known: no round is told, but the last ends are the same.
        """
        free = [place % self.many not in held for place in range(len(row))]
        while waiting:
            turned = []
            for place in waiting:
                tell = self.tellers[place]
                worth = min(tell(row), self.tops[place])
                if free[place] and worth != row[place]:
                    row[place] = worth
                    turned.append(place)
            waiting = self.hearing(turned)
        return tuple(row[:self.many]), tuple(row[self.many:])

    def settled(self, ends, held):
        """The ends to which these lead if those of the held houses stay, the next ends of these lying within them."""
        return self.led_on(list(ends[0] + ends[1]), held, list(range(2 * self.many)))

    def settled_at(self, ends, kept):
        """The ends to which ends that nothing leads on lead if some houses keep ends of their own, within these.

        kept tells for each of these houses the pair of its low and its high.
        """
        row = list(ends[0] + ends[1])
        turned = []
        for house, pair in kept.items():
            for place, worth in zip((house, house + self.many), pair):
                if row[place] != worth:
                    row[place] = worth
                    turned.append(place)
        return self.led_on(row, kept, self.hearing(turned))


def ends_led_to(net, words, ends):
    """The ends to which these lead, their next ends lying within them."""
    return EndWants(net, words, ends).settled(ends, ())


def rounds_from(net, words, ends, most):
    """These ends, the next ones and so on, up to the first that stay, but at most so many next ones."""
    reckoned = EndWants(net, words, ends)
    rounds = [ends]
    while len(rounds) <= most and not reckoned.stays():
        rounds.append(reckoned.behind())
        reckoned.hear(rounds[-1])
    return rounds

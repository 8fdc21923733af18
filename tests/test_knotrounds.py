"""[42]: how many rounds knots need, one behind another."""

import itertools
import random
import unittest

from newsbehind.ends import last_ends, next_ends, rounds_needed
from newsbehind.errors import Refused
from newsbehind.knotrounds import chain_rounds, knot_rounds
from newsbehind.nets import knots, net_of
from newsbehind.rules import branches
from newsbehind.ways import are_one_way
from sampling import one_way, small_net

MORE = ("add", (("hear", 0), ("is", 1)))
BOTH = ("row", (0, 2, 1), ("hear", 0))


def more_of(house):
    return ("add", (("hear", house), ("is", 1)))


def slow_knot_rounds(net):
    """By next ends of the whole net, all houses outside of the knot being held at their lows."""
    lows, highs = last_ends(net)
    told = []
    for knot in knots(net):
        outside = {other for house in knot for other in branches(net[1][house])} - set(knot)
        if any(lows[other] != highs[other] for other in outside):
            told.append(None)
            continue
        ends = tuple(tuple(worth if house in knot else lows[house] for house, worth in enumerate(row))
                     for row in ((0,) * len(lows), net[0]))
        rounds = 0
        while True:
            later = tuple(tuple(worth if house in knot else lows[house] for house, worth in enumerate(row))
                          for row in next_ends(net, ends))
            if later == ends:
                break
            ends = later
            rounds += 1
        told.append(rounds)
    return tuple(told)


def slow_chain(net, counts):
    """The greatest sum over all chains, tried one by one."""
    if None in counts:
        return None
    lots = knots(net)
    best = 0
    for many in range(1, len(lots) + 1):
        for chain in itertools.permutations(range(len(lots)), many):
            if all(any(other in lots[ahead] for house in lots[behind] for other in branches(net[1][house]))
                   for ahead, behind in zip(chain, chain[1:])):
                best = max(best, sum(counts[at] for at in chain))
    return best


class KnotRoundsTest(unittest.TestCase):
    def test_one_knot(self):
        net = net_of([5], [MORE])
        self.assertEqual((knot_rounds(net), chain_rounds(net), rounds_needed(net)), ((5,), 5, 5))
        ring = net_of([3, 3], [more_of(1), ("hear", 0)])
        self.assertEqual((knot_rounds(ring), chain_rounds(ring)), ((rounds_needed(ring),), rounds_needed(ring)))
        self.assertEqual(knot_rounds(net_of([0], [("hear", 0)])), (0,))

    def test_knots_in_a_row(self):
        net = net_of([3, 3, 3], [("is", 2), ("hear", 0), ("part", 2, ("add", (("hear", 1), ("hear", 2))))])
        self.assertEqual((knot_rounds(net), chain_rounds(net), rounds_needed(net)), ((1, 1, 1), 3, 3))
        still = net_of([0, 3], [("is", 9), ("hear", 0)])
        self.assertEqual((knot_rounds(still), chain_rounds(still), rounds_needed(still)), ((0, 1), 1, 1))

    def test_a_row_told_backwards(self):
        # House 2 stands ahead of 1, and that ahead of 0; all knots of one house, in the order of their numbers.
        net = net_of([3, 3, 5], [("hear", 1), ("hear", 2), more_of(2)])
        self.assertEqual((knot_rounds(net), chain_rounds(net)), ((1, 1, 5), 7))

    def test_a_chain_that_leaves_knots_out(self):
        # Each knot but 1 hears what is two ahead of it; the best chain is 0, 2, 3.
        net = net_of([4, 2, 4, 4], [MORE, more_of(1), ("most", (("hear", 0), more_of(2))), ("hear", 2)])
        self.assertEqual((knot_rounds(net), chain_rounds(net)), ((4, 2, 1, 1), 6))
        net = net_of([2, 9, 4], [MORE, more_of(1), ("least", (("hear", 0), ("hear", 1)))])
        self.assertEqual((knot_rounds(net), chain_rounds(net)), ((2, 9, 1), 10))

    def test_a_knot_that_hears_several_others(self):
        net = net_of([1, 6, 3, 9, 9], [MORE, more_of(1), more_of(2), ("most", tuple(("hear", at) for at in (0, 1, 2, 4))),
                                       ("least", (("hear", 3), ("is", 4)))])
        self.assertEqual(knots(net), ((0,), (1,), (2,), (3, 4)))
        counts = knot_rounds(net)
        self.assertEqual((counts, chain_rounds(net)), ((1, 6, 3, counts[3]), 6 + counts[3]))

    def test_a_knot_that_hears_what_does_not_rest(self):
        # House 0 toggles: 1 hears it and is none, 2 hears 1 and is none, 3 hears but 2, 4 hears what rests.
        net = net_of([1, 1, 1, 1, 1], [("from", 1, ("hear", 0)), ("hear", 0), ("hear", 1), ("is", 1), ("hear", 3)])
        self.assertEqual((knot_rounds(net), chain_rounds(net)), ((0, None, None, 1, 1), None))
        # What toggles but is heard by nobody outside makes no number None.
        net = net_of([1, 1], [("from", 1, ("hear", 0)), ("is", 1)])
        self.assertEqual((knot_rounds(net), chain_rounds(net)), ((0, 1), 1))

    def test_behind_a_knot_that_rests_all_the_same(self):
        # House 1 hears what toggles, but rests; so it is None itself, not 2 that hears it.
        net = net_of([1, 1, 1], [("from", 1, ("hear", 0)), ("clip", 1, 1, ("hear", 0)), ("hear", 1)])
        self.assertEqual((knot_rounds(net), chain_rounds(net)), ((0, None, 1), None))

    def test_own_toggles_are_told(self):
        net = net_of([4, 4], [("from", 4, ("hear", 1)), ("clip", 1, 3, ("hear", 0))])
        self.assertEqual(knots(net), ((0, 1),))
        self.assertEqual(knot_rounds(net), (rounds_needed(net),))

    def test_lows_of_the_last_ends_are_heard(self):
        net = net_of([9, 9], [("clip", 7, 7, ("hear", 0)), ("add", (("hear", 0), ("part", 2, ("hear", 1))))])
        self.assertEqual(knot_rounds(net), slow_knot_rounds(net))
        self.assertGreater(knot_rounds(net)[1], 0)

    def test_a_branch_that_goes_both_ways(self):
        for rules, house in (((BOTH, ("is", 0), BOTH), 0), ((("is", 0), BOTH, ("is", 0)), 1), ((("is", 0), ("is", 1), BOTH), 2)):
            for ask in knot_rounds, chain_rounds:
                with self.assertRaises(Refused) as caught:
                    ask(net_of([2, 2, 2], rules))
                self.assertEqual(caught.exception.at, house)

    def test_drawn_nets(self):
        rng = random.Random(421)
        seen = [0, 0]
        for _ in range(400):
            net = one_way(rng, small_net(rng, houses=rng.choice((1, 2, 4, 5)), heard=rng.choice((1, 1, 2, 4))))
            counts = knot_rounds(net)
            self.assertEqual(counts, slow_knot_rounds(net))
            self.assertEqual(chain_rounds(net), slow_chain(net, counts))
            seen[None in counts] += 1
            if None not in counts:
                self.assertLessEqual(rounds_needed(net), chain_rounds(net))
        self.assertGreater(min(seen), 40)

    def test_rows_of_20_houses(self):
        rng = random.Random(422)
        for _ in range(20):
            # Each house hears houses of less or of greater numbers only.
            order = rng.choice((list(range(20)), list(range(19, -1, -1))))
            rules = [None] * 20
            for at, house in enumerate(order):
                heard = rng.sample(order[:at], min(at, rng.randint(0, 3)))
                rules[house] = ("add", tuple(("hear", other) for other in heard) + (("is", rng.randint(0, 3)),))
            net = net_of([rng.randint(1, 1000) for _ in range(20)], rules)
            self.assertIs(are_one_way(net), True)
            self.assertEqual(set(knot_rounds(net)) - {1, 0}, set())
            self.assertLessEqual(rounds_needed(net), chain_rounds(net))
            self.assertLessEqual(chain_rounds(net), 20)


if __name__ == "__main__":
    unittest.main()

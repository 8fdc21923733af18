"""[69]: distances, and news that a goal can't be reached."""

import itertools
import random
import unittest

from newsbehind.beats import shown
from newsbehind.distancenets import distance_net, distances, slow_rounds
from newsbehind.ends import rounds_needed
from newsbehind.nets import is_net, net_of
from newsbehind.resting import rests_always, settled_from, the_rest
from newsbehind.ways import ways
from sampling import drawn_run

LENGTHS = ((0, 1, 2), (1, 0, 1), (1, 2, 5))


def drawn_lengths(rng, n, most=9, often=0.4):
    pairs = [(u, v) for u in range(n) for v in range(n) if u != v and rng.random() < often]
    kept = [(u, v) for at, (u, v) in enumerate(pairs) if sum(other == u for other, _ in pairs[:at]) < 12]
    return tuple((u, v, rng.randint(1, most)) for u, v in kept)


def slow_distances(n, lengths, goal, top):
    """By all ways that come to no place twice."""
    length_of = {(u, v): length for u, v, length in lengths}
    told = []
    for place in range(n):
        least = 0 if place == goal else top
        others = [other for other in range(n) if other not in (place, goal)]
        for many in range(len(others) + 1):
            for between in itertools.permutations(others, many):
                steps = list(zip((place,) + between, between + (goal,)))
                if place != goal and all(step in length_of for step in steps):
                    least = min(least, sum(length_of[step] for step in steps))
        told.append(least)
    return tuple(told)


class DistanceNetTest(unittest.TestCase):
    def test_by_hand(self):
        self.assertEqual(distance_net(3, LENGTHS, 2, 9), net_of([9] * 3, [
            ("least", (("add", (("is", 2), ("hear", 1))),)),
            ("least", (("add", (("is", 1), ("hear", 0))), ("add", (("is", 5), ("hear", 2))))),
            ("is", 0)]))
        # A goal with lengths, and places without any.
        self.assertEqual(distance_net(3, LENGTHS, 1, 7)[1][1:], (("is", 0), ("is", 7)))
        self.assertEqual(distance_net(3, (), 1, 7)[1], (("is", 7), ("is", 0), ("is", 7)))

    def test_one_place(self):
        for top in 1, 1000:
            self.assertEqual(distance_net(1, (), 0, top), ((top,), (("is", 0),)))
            self.assertEqual((distances(1, (), 0, top), slow_rounds(1, (), 0, top)), ((0,), 1))

    def test_a_place_with_1_length_and_with_12(self):
        lengths = tuple((0, v, 100 - v) for v in range(1, 13)) + ((13, 0, 4),)
        net = distance_net(14, lengths, 12, 500)
        self.assertIs(is_net(net), True)
        self.assertEqual(net[1][0], ("least", tuple(("add", (("is", 100 - v), ("hear", v))) for v in range(1, 13))))
        self.assertEqual(net[1][13], ("least", (("add", (("is", 4), ("hear", 0))),)))
        self.assertEqual(distances(14, lengths, 12, 500), (88,) + (500,) * 11 + (0, 92))


class DistancesTest(unittest.TestCase):
    def test_by_hand(self):
        self.assertEqual(distances(3, LENGTHS, 2, 9), (7, 5, 0))
        self.assertEqual(distances(3, LENGTHS, 0, 9), (0, 1, 9))
        self.assertEqual(distances(3, LENGTHS, 1, 9), (2, 0, 9))
        self.assertEqual(distances(2, (), 1, 5), (5, 0))

    def test_tops_less_than_the_sums(self):
        for top in range(1, 12):
            self.assertEqual(distances(3, LENGTHS, 2, top), (min(7, top), min(5, top), 0))

    def test_a_ring_that_cannot_reach_the_goal(self):
        lengths = ((0, 1, 1), (1, 2, 1), (2, 0, 1))
        self.assertEqual(distances(4, lengths, 3, 30), (30, 30, 30, 0))
        # All worths grow by the length of one step in each round, till the top.
        self.assertEqual(slow_rounds(4, lengths, 3, 30), 30)
        self.assertEqual(slow_rounds(4, tuple((u, v, 7) for u, v, _ in lengths), 3, 30), 5)

    def test_drawn_places(self):
        rng = random.Random(691)
        for _ in range(120):
            n = rng.choice((1, 2, 3, 4, 5))
            lengths, goal, top = drawn_lengths(rng, n), rng.randrange(n), rng.choice((1, 3, 9, 20, 1000))
            net = distance_net(n, lengths, goal, top)
            told = distances(n, lengths, goal, top)
            self.assertIs(is_net(net), True)
            self.assertEqual(told, slow_distances(n, lengths, goal, top))
            self.assertTrue(all(word != "falls" for house in range(n) for word in ways(net, house)))
            self.assertEqual((rests_always(net), the_rest(net)), (True, told))
            rounds = slow_rounds(n, lengths, goal, top)
            self.assertEqual(rounds, rounds_needed(net))
            self.assertLessEqual(rounds, top + n)

    def test_late_news(self):
        rng = random.Random(692)
        for _ in range(20):
            lengths = drawn_lengths(rng, 5)
            net = distance_net(5, lengths, 0, 20)
            beats = settled_from(net, 3) + 4
            states = shown(net, 3, drawn_run(rng, net, 3, beats))
            self.assertEqual(set(states[beats - 4:]), {distances(5, lengths, 0, 20)})

    def test_20_places(self):
        rng = random.Random(693)
        for _ in range(6):
            lengths = drawn_lengths(rng, 20, most=1000, often=0.2)
            net = distance_net(20, lengths, 7, 1000)
            self.assertIs(is_net(net), True)
            self.assertEqual(the_rest(net), distances(20, lengths, 7, 1000))
        ring = tuple(sorted((u, (u + 1) % 19, 1) for u in range(19)))
        self.assertEqual(distances(20, ring, 19, 1000), (1000,) * 19 + (0,))
        self.assertEqual(slow_rounds(20, ring, 19, 1000), 1000)
        chain = tuple((u, u + 1, 50) for u in range(19))
        self.assertEqual(distances(20, chain, 19, 1000), tuple(50 * (19 - u) for u in range(20)))


class SlowRoundsTest(unittest.TestCase):
    def test_by_hand(self):
        self.assertEqual(slow_rounds(2, ((0, 1, 1),), 1, 9), 2)
        self.assertEqual(slow_rounds(3, (), 0, 5), 1)
        self.assertEqual(slow_rounds(2, ((0, 1, 1), (1, 0, 1)), 1, 9), 2)


if __name__ == "__main__":
    unittest.main()

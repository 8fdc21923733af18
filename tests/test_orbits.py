"""[45]: even steps."""

import random
import unittest

from newsbehind.errors import Refused
from newsbehind.nets import net_of, next_state
from newsbehind.orbits import orbit, rings
from newsbehind.resting import rests_always, the_rest
from newsbehind.rests import rests, state_count
from newsbehind.ways import are_one_way
from sampling import all_states, drawn_net, drawn_state, greatest_net, small_net

TWO = net_of([3, 3], [("most", (("is", 1), ("hear", 1))), ("clip", 0, 2, ("hear", 0))])
TURN = net_of([2], [("row", (1, 2, 0), ("hear", 0))])
# From 0 through 1 and 2 into the ring of 3, 4 and 5; 6 stands alone, 7 leads to it.
LONG = net_of([7], [("row", (1, 2, 3, 4, 5, 3, 6, 6), ("hear", 0))])


def slow_orbit(net, state):
    states = [state]
    while next_state(net, states[-1]) not in states:
        states.append(next_state(net, states[-1]))
    at = states.index(next_state(net, states[-1]))
    return tuple(states[:at]), tuple(states[at:])


class OrbitTest(unittest.TestCase):
    def refused(self, net, state, most):
        with self.assertRaises(Refused) as caught:
            orbit(net, state, most)
        self.assertEqual(caught.exception.at, most)

    def test_without_a_tail(self):
        self.assertEqual(orbit(TURN, (1,), 3), ((), ((1,), (2,), (0,))))
        self.assertEqual(orbit(TWO, (2, 2), 1), ((), ((2, 2),)))

    def test_with_a_tail(self):
        self.assertEqual(orbit(TWO, (3, 0), 9), (((3, 0),), ((1, 2), (2, 1))))
        self.assertEqual(orbit(LONG, (0,), 99), (((0,), (1,), (2,)), ((3,), (4,), (5,))))
        self.assertEqual(orbit(LONG, (2,), 99), (((2,),), ((3,), (4,), (5,))))
        self.assertEqual(orbit(LONG, (4,), 99), ((), ((4,), (5,), (3,))))
        self.assertEqual(orbit(LONG, (7,), 99), (((7,),), ((6,),)))

    def test_just_most_and_one_more(self):
        for state, many in (((0,), 6), ((1,), 5), ((3,), 3), ((6,), 1), ((7,), 2)):
            told = orbit(LONG, state, many)
            self.assertEqual(len(told[0]) + len(told[1]), many)
            self.assertEqual(orbit(LONG, state, many + 1), told)
            for less in range(many):
                self.refused(LONG, state, less)

    def test_drawn_nets(self):
        rng = random.Random(451)
        tails = set()
        lengths = set()
        for _ in range(300):
            net = small_net(rng, houses=rng.choice((1, 2, 3, 5)))
            state = drawn_state(rng, net)
            tail, ring = slow_orbit(net, state)
            self.assertEqual(orbit(net, state, state_count(net)), (tail, ring))
            tails.add(len(tail))
            lengths.add(len(ring))
        self.assertTrue({0, 1, 2, 3} <= tails)
        self.assertTrue({1, 2, 3} <= lengths)

    def test_great_nets(self):
        rng = random.Random(452)
        net = drawn_net(rng, houses=20, many=60)
        state = drawn_state(rng, net)
        tail, ring = orbit(net, state, 5000)
        self.assertEqual((tail + ring)[0], state)
        self.assertEqual(next_state(net, ring[-1]), ring[0])
        self.assertGreater(len(orbit(greatest_net(), (7,) * 20, 5000)[1]), 0)
        net = net_of([1000], [("add", (("hear", 0), ("is", 1)))])
        self.assertEqual(len(orbit(net, (0,), 1001)[0]), 1000)
        self.refused(net, (0,), 1000)


class RingsTest(unittest.TestCase):
    def refused(self, count, net, most):
        with self.assertRaises(Refused) as caught:
            rings(net, most)
        self.assertEqual(caught.exception.at, count)

    def test_by_hand(self):
        self.assertEqual(rings(TWO, 100)[0], (((1, 1),), 4))
        self.assertEqual(rings(TURN, 3), ((((0,), (1,), (2,)), 3),))
        self.assertEqual(rings(LONG, 8), ((((3,), (4,), (5,)), 6), (((6,),), 2)))
        self.assertEqual(rings(net_of([0], [("is", 3)]), 1), ((((0,),), 1),))
        self.assertEqual(rings(net_of([3], [("hear", 0)]), 4), tuple((((worth,),), 1) for worth in range(4)))

    def test_begun_with_the_least_state(self):
        net = net_of([3], [("row", (3, 0, 1, 2), ("hear", 0))])
        self.assertEqual(rings(net, 4), ((((0,), (3,), (2,), (1,)), 4),))
        # Found from a tail that enters it elsewhere.
        net = net_of([4], [("row", (3, 2, 4, 1, 3), ("hear", 0))])
        self.assertEqual(rings(net, 5), ((((1,), (2,), (4,), (3,)), 5),))

    def test_the_number_of_the_error(self):
        for tops, count in (([3, 3], 16), ([0], 1), ([1000], 1001), ([0, 4, 1], 10)):
            net = net_of(tops, [("is", 0)] * len(tops))
            self.assertEqual(rings(net, count), ((((0,) * len(tops),), count),))
            self.refused(count, net, count - 1)
            self.refused(count, net, 0)
        self.refused(1001 ** 20, greatest_net(), 1001 ** 20 - 1)

    def test_drawn_nets(self):
        rng = random.Random(453)
        several = 0
        for _ in range(200):
            net = small_net(rng, houses=rng.choice((1, 2, 3)))
            told = rings(net, state_count(net))
            counts = {}
            for state in all_states(net):
                ring = slow_orbit(net, state)[1]
                at = ring.index(min(ring))
                ring = ring[at:] + ring[:at]
                counts[ring] = counts.get(ring, 0) + 1
            self.assertEqual(told, tuple(sorted(counts.items())))
            self.assertEqual(sum(count for _, count in told), state_count(net))
            self.assertEqual(tuple(ring[0] for ring, _ in told if len(ring) == 1), rests(net, state_count(net)))
            several += len(told) > 2
            if are_one_way(net) and rests_always(net):
                self.assertEqual(told, (((the_rest(net),), state_count(net)),))
        self.assertGreater(several, 20)

    def test_many_states(self):
        net = net_of([1] * 14, [("from", 1, ("hear", (house + 1) % 14)) for house in range(14)])
        told = rings(net, 2 ** 14)
        self.assertEqual(sum(count for _, count in told), 2 ** 14)
        self.assertTrue(all(len(ring) == count and ring[0] == min(ring) for ring, count in told))
        for ring, _ in told[:50]:
            self.assertTrue(all(next_state(net, one) == other for one, other in zip(ring, ring[1:] + ring[:1])))


if __name__ == "__main__":
    unittest.main()

"""[43] and [44]: all rests, and nets in which nothing falls."""

import itertools
import random
import unittest

from newsbehind.beats import shown
from newsbehind.ends import last_ends
from newsbehind.errors import Refused
from newsbehind.nets import is_rest, net_of, next_state
from newsbehind.rests import climb, greatest_rest, is_rising, least_rest, rests, state_count
from newsbehind.ways import are_one_way, ways
from sampling import all_states, drawn_run, drawn_state, greatest_net, one_way, small_net

TWO = net_of([3, 3], [("most", (("is", 1), ("hear", 1))), ("clip", 0, 2, ("hear", 0))])
BOTH = ("row", (0, 2, 1), ("hear", 0))
FALLS = ("from", 2, ("hear", 0))


def rising_net(rng, houses=3, top=3):
    """A net in which nothing falls."""
    while True:
        net = small_net(rng, houses=houses, top=top)
        if all(word in ("rises", "none") for house in range(houses) for word in ways(net, house)):
            return net


class RestsTest(unittest.TestCase):
    def refused(self, count, net, most):
        with self.assertRaises(Refused) as caught:
            rests(net, most)
        self.assertEqual(caught.exception.at, count)

    def test_state_count(self):
        for tops, count in (([0], 1), ([3], 4), ([3, 3], 16), ([0, 1, 2, 3], 24), ([1000] * 20, 1001 ** 20)):
            self.assertEqual(state_count(net_of(tops, [("is", 0)] * len(tops))), count)

    def test_none(self):
        self.assertEqual(rests(net_of([1], [("from", 1, ("hear", 0))]), 9), ())
        self.assertEqual(rests(net_of([1, 1], [("from", 1, ("hear", 1)), ("hear", 0)]), 9), ())

    def test_one_and_several(self):
        self.assertEqual(rests(TWO, 100), ((1, 1), (2, 2)))
        self.assertEqual(rests(net_of([3], [("is", 9)]), 9), ((3,),))
        self.assertEqual(rests(net_of([3, 3], [("from", 3, ("hear", 1)), ("hear", 0)]), 16), ())
        self.assertEqual(rests(net_of([4, 4], [("from", 4, ("hear", 1)), ("hear", 0)]), 25), ((2, 2),))
        self.assertEqual(rests(net_of([2, 2], [("from", 2, ("hear", 1)), ("from", 2, ("hear", 0))]), 9), ((0, 2), (1, 1), (2, 0)))

    def test_all_states(self):
        net = net_of([2, 1, 3], [("hear", 0), ("hear", 1), ("hear", 2)])
        self.assertEqual(rests(net, 24), tuple(itertools.product(range(3), range(2), range(4))))
        self.assertEqual(rests(net_of([0], [("hear", 0)]), 1), ((0,),))

    def test_just_as_many_states_as_most_tells(self):
        for tops, count in (([3, 3], 16), ([0], 1), ([999], 1000), ([1000], 1001)):
            net = net_of(tops, [("hear", 0)] * len(tops))
            self.assertEqual(len(rests(net, count)), tops[0] + 1)
            self.assertEqual(len(rests(net, count + 1)), tops[0] + 1)
            self.refused(count, net, count - 1)
            self.refused(count, net, 0)
        self.refused(1001 ** 20, greatest_net(), 10 ** 60)

    def test_drawn_nets(self):
        rng = random.Random(431)
        counts = {}
        for _ in range(300):
            net = small_net(rng, houses=rng.choice((1, 2, 3, 4)))
            found = tuple(state for state in all_states(net) if is_rest(net, state))
            self.assertEqual(rests(net, state_count(net)), found)
            counts[min(len(found), 2)] = counts.get(min(len(found), 2), 0) + 1
            if are_one_way(net):
                lows, highs = last_ends(net)
                for state in found:
                    self.assertTrue(all(low <= worth <= high for low, worth, high in zip(lows, state, highs)))
        self.assertGreater(min(counts.values()), 10)
        self.assertEqual(len(counts), 3)

    def test_a_rest_stays_whatever_the_lateness(self):
        rng = random.Random(432)
        for _ in range(60):
            net = small_net(rng)
            for state in rests(net, 1000)[:3]:
                run = drawn_run(rng, net, 3, 8)
                self.assertEqual(set(shown(net, 3, ((state,) * 3, run[1]))), {state})

    def test_far_more_states_than_need_be_tried(self):
        net = net_of([1000] * 20, [("part", 2, ("hear", (house + 1) % 20)) for house in range(20)])
        self.assertEqual(rests(net, 1001 ** 20), ((0,) * 20,))
        self.refused(1001 ** 20, net, 1001 ** 20 - 1)

    def test_many_states(self):
        net = net_of([1] * 16, [("hear", (house + 1) % 16) for house in range(16)])
        self.assertEqual(rests(net, 2 ** 16), ((0,) * 16, (1,) * 16))
        self.refused(2 ** 16, net, 2 ** 16 - 1)


class RisingTest(unittest.TestCase):
    def refused(self, house, net):
        for ask in (lambda: least_rest(net), lambda: greatest_rest(net), lambda: climb(net, (0,) * len(net[0]))):
            with self.assertRaises(Refused) as caught:
                ask()
            self.assertEqual(caught.exception.at, house)

    def test_whether(self):
        for rule, is_one in ((("hear", 0), True), (FALLS, False), (BOTH, False), (("is", 1), True), (("from", 2, FALLS), True),
                             (("times", 0, FALLS), True), (("bar", 1, 2, 0, ("hear", 0)), False), (("row", (2, 1), ("hear", 0)), False),
                             (("row", (1, 1, 2), ("hear", 0)), True)):
            net = net_of([2, 2], [("hear", 1), rule])
            self.assertIs(is_rising(net), is_one, rule)
            self.assertIs(is_rising(net_of([2, 2], [rule, ("hear", 0)])), is_one, rule)
            if not is_one:
                self.refused(1, net)
                self.refused(0, net_of([2, 2], [rule, rule]))

    def test_which_house_is_refused(self):
        self.refused(0, net_of([2] * 3, [BOTH, FALLS, ("hear", 1)]))
        self.refused(0, net_of([2] * 3, [FALLS, BOTH, ("hear", 1)]))
        self.refused(1, net_of([2] * 3, [("hear", 0), BOTH, FALLS]))
        self.refused(2, net_of([2] * 3, [("hear", 0), ("is", 1), FALLS]))

    def test_least_and_greatest(self):
        self.assertEqual((least_rest(TWO), greatest_rest(TWO)), ((1, 1), (2, 2)))
        net = net_of([3], [("hear", 0)])
        self.assertEqual((least_rest(net), greatest_rest(net), rests(net, 9)), ((0,), (3,), ((0,), (1,), (2,), (3,))))

    def test_climb_by_hand(self):
        self.assertEqual((climb(TWO, (3, 0)), climb(TWO, (1, 0))), (None, (1, 1)))
        self.assertEqual((climb(TWO, (0, 0)), climb(TWO, (3, 3))), ((1, 1), (2, 2)))
        self.assertEqual((climb(TWO, (1, 1)), climb(TWO, (2, 2))), ((1, 1), (2, 2)))
        self.assertEqual((climb(TWO, (3, 2)), climb(TWO, (2, 3)), climb(TWO, (1, 2))), ((2, 2), None, None))
        # Rests between others: from below to the least one above, from above to the greatest one below.
        net = net_of([9], [("row", (1, 2, 2, 4, 4, 4, 5, 8, 8, 8), ("hear", 0))])
        self.assertEqual([climb(net, (worth,)) for worth in range(10)],
                         [(2,), (2,), (2,), (4,), (4,), (4,), (4,), (8,), (8,), (8,)])

    def test_drawn_nets(self):
        rng = random.Random(441)
        seen = {"more": 0, "less": 0, "both": 0, "neither": 0}
        for _ in range(150):
            net = rising_net(rng)
            every = rests(net, 1000)
            self.assertEqual((least_rest(net), greatest_rest(net)), last_ends(net))
            self.assertTrue({least_rest(net), greatest_rest(net)} <= set(every))
            for state in every:
                self.assertTrue(all(map(lambda low, worth, high: low <= worth <= high, least_rest(net), state, greatest_rest(net))))
            for _ in range(5):
                state = drawn_state(rng, net)
                later = next_state(net, state)
                no_less = all(one <= other for one, other in zip(state, later))
                no_more = all(one >= other for one, other in zip(state, later))
                seen[{(1, 1): "both", (1, 0): "more", (0, 1): "less", (0, 0): "neither"}[no_less, no_more]] += 1
                if not (no_less or no_more):
                    self.assertIs(climb(net, state), None)
                    continue
                while next_state(net, later) != later:
                    later = next_state(net, later)
                self.assertEqual(climb(net, state), later)
                if no_less:
                    near = [rest for rest in every if all(one <= other for one, other in zip(state, rest))]
                    self.assertTrue(all(later[at] == min(rest[at] for rest in near) for at in range(3)))
                if no_more:
                    near = [rest for rest in every if all(one >= other for one, other in zip(state, rest))]
                    self.assertTrue(all(later[at] == max(rest[at] for rest in near) for at in range(3)))
                past = (state,) * 3
                states = shown(net, 3, (past, drawn_run(rng, net, 3, 60)[1]))
                self.assertEqual(states[-1], later)
        self.assertGreater(min(seen.values()), 20)

    def test_one_way_nets_are_rising_or_refused(self):
        rng = random.Random(442)
        for _ in range(100):
            net = one_way(rng, small_net(rng))
            words = [ways(net, house) for house in range(3)]
            falling = [house for house in range(3) if "falls" in words[house]]
            self.assertIs(is_rising(net), not falling)
            if falling:
                self.refused(falling[0], net)

    def test_a_long_climb(self):
        net = net_of([1000] * 20, [("add", (("hear", 19), ("is", 1)))] + [("hear", house) for house in range(19)])
        self.assertEqual(climb(net, (0,) * 20), (1000,) * 20)
        down = net_of([1000] * 20, [("from", 1000, ("add", (("is", 1), ("from", 1000, ("hear", 19)))))]
                      + [("hear", house) for house in range(19)])
        self.assertEqual(climb(down, (1000,) * 20), (0,) * 20)


if __name__ == "__main__":
    unittest.main()

"""[24], [25]: whether a net rests whatever the lateness, where, and by which beat."""

import itertools
import random
import unittest

from newsbehind.beats import shown
from newsbehind.ends import ends_behind, last_ends, rounds_needed
from newsbehind.errors import Refused
from newsbehind.nets import is_rest, net_of
from newsbehind.resting import ends_at, resting_houses, rests_always, settled_from, the_rest
from newsbehind.showing import can_show
from newsbehind.toggles import toggle_ends, toggle_run
from newsbehind.ways import ways
from sampling import all_states, drawn_run, one_way, small_net, two_sided_net

CALM = net_of([3, 3], [("part", 2, ("hear", 1)), ("clip", 1, 2, ("hear", 0))])
EVEN = net_of([3, 3], [("from", 3, ("hear", 1)), ("most", (("is", 1), ("hear", 0)))])
# House 0 rests, house 1 hears it, house 2 keeps what it has, house 3 hears both.
HALF = net_of([5, 5, 5, 5], [("is", 4), ("part", 2, ("hear", 0)), ("hear", 2), ("least", (("hear", 1), ("hear", 2)))])
BOTH = ("row", (1, 2, 0), ("hear", 0))


def drawn(rng):
    return one_way(rng, small_net(rng)) if rng.random() < 0.5 else two_sided_net(rng)[0]


class AnswerTest(unittest.TestCase):
    def test_ends_that_meet(self):
        self.assertIs(rests_always(CALM), True)
        self.assertEqual(the_rest(CALM), (0, 1))
        self.assertEqual(resting_houses(CALM), (0, 1))

    def test_ends_that_do_not(self):
        self.assertIs(rests_always(EVEN), False)
        self.assertIsNone(the_rest(EVEN))
        self.assertEqual(resting_houses(EVEN), ())

    def test_some_houses_rest(self):
        self.assertIs(rests_always(HALF), False)
        self.assertIsNone(the_rest(HALF))
        self.assertEqual(resting_houses(HALF), (0, 1))
        self.assertEqual(last_ends(HALF), ((4, 2, 0, 0), (4, 2, 5, 2)))

    def test_one_rest_and_yet_no_rest_always(self):
        net = net_of([2], [("from", 2, ("hear", 0))])
        self.assertEqual([state for state in all_states(net) if is_rest(net, state)], [(1,)])
        self.assertIs(rests_always(net), False)

    def test_no_branches(self):
        net = net_of([5, 6], [("is", 4), ("is", 1000)])
        self.assertIs(rests_always(net), True)
        self.assertEqual((the_rest(net), resting_houses(net), settled_from(net, 9)), ((4, 6), (0, 1), 0))

    def test_tops_of_0(self):
        net = net_of([0, 0], [("hear", 1), ("is", 7)])
        self.assertIs(rests_always(net), True)
        self.assertEqual((the_rest(net), resting_houses(net), settled_from(net, 2)), ((0, 0), (0, 1), 0))

    def test_by_the_last_ends(self):
        rng = random.Random(101)
        for _ in range(150):
            net = drawn(rng)
            lows, highs = last_ends(net)
            self.assertIs(rests_always(net), lows == highs)
            self.assertEqual(the_rest(net), lows if lows == highs else None)
            self.assertEqual(resting_houses(net), tuple(house for house in range(3) if lows[house] == highs[house]))

    def test_the_rest_is_the_only_one(self):
        rng = random.Random(102)
        resting = 0
        for _ in range(150):
            net = drawn(rng)
            rests = [state for state in all_states(net) if is_rest(net, state)]
            if rests_always(net):
                resting += 1
                self.assertEqual(rests, [the_rest(net)])
            words = [word for house in range(3) for word in ways(net, house)]
            if "falls" not in words:
                lows, highs = last_ends(net)
                self.assertTrue(lows in rests and highs in rests)
                self.assertEqual(rests_always(net), len(rests) == 1)
        self.assertGreater(resting, 30)

    def test_a_house_rests_in_all_runs_if_told_and_in_one_run_not_if_not(self):
        rng = random.Random(103)
        moving = 0
        for _ in range(100):
            net, d = drawn(rng), rng.choice((2, 3, 9))
            resting = resting_houses(net)
            lows, highs = last_ends(net)
            settled = d * max(rounds_needed(net) - 1, 0)
            for state in shown(net, d, drawn_run(rng, net, d, settled + 9))[settled:]:
                for house in resting:
                    self.assertEqual(state[house], lows[house])
            if len(resting) < 3:
                moving += 1
                states = shown(net, d, toggle_run(net, d, toggle_ends(net), 6))
                for house in set(range(3)) - set(resting):
                    self.assertEqual([state[house] for state in states], [lows[house], highs[house]] * 3)
        self.assertGreater(moving, 20)


class BeatsTest(unittest.TestCase):
    def refused(self, at, net, d=2):
        with self.assertRaises(Refused) as caught:
            settled_from(net, d)
        self.assertEqual(caught.exception.at, at)

    def test_ends_at_both_sides_of_a_multiple_of_d(self):
        rounds = [ends_behind(CALM, many) for many in range(4)]
        self.assertEqual(len(set(rounds)), 4)
        for d in (2, 3, 9):
            for many in (1, 2, 3):
                self.assertEqual(ends_at(CALM, d, d * (many - 1)), rounds[many])
                self.assertEqual(ends_at(CALM, d, d * many - 1), rounds[many])
            for beat in (3 * d, 2000, 10 ** 399):
                self.assertEqual(ends_at(CALM, d, beat), rounds[3])

    def test_settled_from(self):
        self.assertEqual([settled_from(CALM, d) for d in (2, 3, 9)], [4, 6, 18])
        one = net_of([9], [("is", 4)])
        self.assertEqual((rounds_needed(one), settled_from(one, 9)), (1, 0))
        up = net_of([1000], [("add", (("hear", 0), ("is", 1)))])
        self.assertEqual([settled_from(up, d) for d in (2, 9)], [1998, 8991])

    def test_a_net_that_does_not_rest_always(self):
        for net in (EVEN, HALF, net_of([9], [("hear", 0)])):
            for d in (2, 9):
                self.refused(20, net, d)

    def test_a_branch_with_both_comes_first(self):
        self.refused(0, net_of([9], [BOTH]))
        self.refused(1, net_of([9, 9, 9], [("hear", 0), BOTH, BOTH]))
        self.refused(2, net_of([9, 9, 9], [("is", 0), ("is", 0), BOTH]))

    def test_runs_show_what_lies_within(self):
        rng = random.Random(104)
        for _ in range(120):
            net, d = drawn(rng), rng.choice((2, 3, 5, 9))
            states = shown(net, d, drawn_run(rng, net, d, 5 * d))
            for beat, state in enumerate(states):
                lows, highs = ends_at(net, d, beat)
                self.assertTrue(all(low <= worth <= high for low, worth, high in zip(lows, state, highs)))
            if rests_always(net):
                self.assertLessEqual(set(states[settled_from(net, d):]), {the_rest(net)})

    def test_nets_that_rest_show_nothing_else(self):
        rng = random.Random(105)
        found = late = 0
        while found < 60:
            net, d = drawn(rng), rng.choice((2, 3))
            if rests_always(net) and rounds_needed(net) > 1:
                found += 1
                settled = settled_from(net, d)
                states = shown(net, d, drawn_run(rng, net, d, settled + 12))
                self.assertEqual(set(states[settled:]), {the_rest(net)})
                late += states[settled - 1] != the_rest(net)
        self.assertGreater(late, 0)

    def test_both_ends_do_show(self):
        rng = random.Random(106)
        wide = 0
        for _ in range(40):
            net, _ = two_sided_net(rng, houses=2, top=2)
            pasts = list(itertools.product(all_states(net), repeat=2))
            for beat in range(5):
                states = {state for past in pasts for state in can_show(net, 2, past, beat, 10 ** 6)}
                for house, (low, high) in enumerate(zip(*ends_at(net, 2, beat))):
                    worths = [state[house] for state in states]
                    self.assertEqual((min(worths), max(worths)), (low, high))
                    wide += low < high
        self.assertGreater(wide, 50)


if __name__ == "__main__":
    unittest.main()

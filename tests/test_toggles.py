"""[27]: ends that are shown in turns for ever."""

import random
import unittest

from newsbehind.beats import shown
from newsbehind.ends import last_ends, next_ends
from newsbehind.lateness import is_run
from newsbehind.nets import net_of
from newsbehind.resting import rests_always
from newsbehind.toggles import is_toggle, toggle_ends, toggle_run
from newsbehind.ways import ways
from sampling import ODD_VALUES, all_states, drawn_ends, one_way, small_net, two_sided_net

EVEN = net_of([3, 3], [("from", 3, ("hear", 1)), ("most", (("is", 1), ("hear", 0)))])
TOGGLE = ((1, 1), (2, 2))
CALM = net_of([3, 3], [("part", 2, ("hear", 1)), ("clip", 1, 2, ("hear", 0))])
SWAP = net_of([4, 4], [("hear", 1), ("hear", 0)])


def drawn(rng):
    return one_way(rng, small_net(rng)) if rng.random() < 0.5 else two_sided_net(rng)[0]


def all_toggles(net):
    states = all_states(net)
    return [(lows, highs) for lows in states for highs in states
            if lows != highs and all(map(int.__le__, lows, highs)) and next_ends(net, (lows, highs)) == (lows, highs)]


class ToggleTest(unittest.TestCase):
    def holds(self, value, net=EVEN):
        self.assertIs(is_toggle(net, value), True, value)

    def fails(self, value, net=EVEN):
        self.assertIs(is_toggle(net, value), False, value)

    def test_told(self):
        for net in (EVEN, SWAP, net_of([9], [("hear", 0)]), net_of([1000], [("from", 1000, ("hear", 0))])):
            self.holds(toggle_ends(net), net)
        self.assertEqual(toggle_ends(EVEN), TOGGLE)
        for net in (CALM, net_of([9], [("is", 3)]), net_of([0], [("hear", 0)])):
            self.assertIsNone(toggle_ends(net))

    def test_just_nets_that_do_not_rest_always_have_one(self):
        rng = random.Random(121)
        found = [0, 0]
        for _ in range(60):
            net = one_way(rng, small_net(rng, houses=2)) if rng.random() < 0.5 else two_sided_net(rng, houses=2)[0]
            ends = toggle_ends(net)
            toggles = all_toggles(net)
            found[ends is None] += 1
            self.assertEqual(ends is None, rests_always(net))
            self.assertEqual(ends is None, toggles == [])
            if ends is not None:
                self.assertIn(ends, toggles)
            lows, highs = last_ends(net)
            for toggle in toggles:
                self.holds(toggle, net)
                self.assertTrue(all(map(int.__ge__, toggle[0], lows)) and all(map(int.__le__, toggle[1], highs)))
        self.assertGreater(min(found), 10)

    def test_other_toggles_than_the_last_ends(self):
        self.holds(((0, 0), (4, 4)), SWAP)
        self.holds(((1, 1), (3, 3)), SWAP)
        self.holds(((2, 2), (3, 3)), SWAP)

    def test_the_same_state_twice(self):
        rest = net_of([2], [("from", 2, ("hear", 0))])
        self.fails(((1,), (1,)), rest)
        self.holds(((0,), (2,)), rest)
        self.fails(((3, 3), (3, 3)), SWAP)
        self.fails(((0, 1), (0, 1)), CALM)

    def test_what_is_not_its_own_next_one(self):
        self.fails(((0, 0), (3, 3)))
        self.fails(((0, 1), (2, 2)))
        self.fails(((1, 2), (2, 2)))
        self.fails(((1, 1), (2, 3)))
        self.fails(((0, 1), (4, 4)), SWAP)
        self.fails(((0, 0), (3, 3)), CALM)

    def test_what_are_no_ends(self):
        self.fails((TOGGLE[1], TOGGLE[0]))
        self.fails(((3, 3), (1, 1)), SWAP)
        self.fails(((1, 3), (3, 1)), SWAP)
        # Their own next ones, but a low stands above its high.
        keeping = net_of([4, 4], [("hear", 0), ("hear", 1)])
        self.fails(((1, 3), (3, 1)), keeping)
        self.holds(((1, 1), (3, 3)), keeping)
        self.fails(((0, 0), (5, 5)), SWAP)
        self.fails(((-1, -1), (3, 3)), SWAP)

    def test_any_value(self):
        for value in (TOGGLE[0], (TOGGLE,), (TOGGLE, TOGGLE)):
            self.fails(value)
        for value in ODD_VALUES:
            self.fails(value)
            self.fails((value, value))
            self.fails((value, TOGGLE[1]))
            self.fails((TOGGLE[0], value))
            self.fails((TOGGLE[0], (value, 2)))
            if value is True or value != 1:
                self.fails(((1, value), TOGGLE[1]))

    def test_lists_bools_and_other_lengths(self):
        self.holds(TOGGLE)
        self.fails(list(TOGGLE))
        self.fails(([1, 1], (2, 2)))
        self.fails(((1, 1), [2, 2]))
        self.fails(((True, 1), (2, 2)))
        self.fails(((1, 1), (2, 2), (2, 2)))
        self.fails(((1, 1),))
        self.fails(((1,), (2,)))
        self.fails(((1, 1, 1), (2, 2, 2)))
        self.fails(((False, False), (True, True)), net_of([1, 1], [("hear", 1), ("hear", 0)]))

    def test_drawn_ends(self):
        rng = random.Random(122)
        for _ in range(200):
            net = drawn(rng)
            ends = drawn_ends(rng, net)
            self.assertIs(is_toggle(net, ends), ends[0] != ends[1] and next_ends(net, ends) == ends)


class ToggleRunTest(unittest.TestCase):
    def test_the_run(self):
        lateness = ((1,), (2,))
        self.assertEqual(toggle_run(EVEN, 2, TOGGLE, 2), (TOGGLE, (lateness,) * 2))
        self.assertEqual(toggle_run(EVEN, 3, TOGGLE, 1), (((2, 2), (1, 1), (2, 2)), (lateness,)))
        self.assertEqual(toggle_run(EVEN, 9, TOGGLE, 3), (((2, 2),) + ((1, 1), (2, 2)) * 4, (lateness,) * 3))

    def test_no_beats(self):
        self.assertEqual(toggle_run(EVEN, 2, TOGGLE, 0), (TOGGLE, ()))
        self.assertEqual(toggle_run(EVEN, 9, TOGGLE, 0)[1], ())

    def test_each_branch_by_its_word(self):
        parts = (("hear", 0), ("from", 9, ("hear", 1)), ("times", 0, ("hear", 0)), ("times", 0, ("from", 3, ("hear", 1))))
        rule = ("clip", 0, 9, ("add", parts))
        net = net_of([9, 9], [rule, ("from", 9, ("hear", 0))])
        self.assertEqual(ways(net, 0), ("rises", "falls", "none", "none"))
        self.assertEqual(toggle_run(net, 2, toggle_ends(net), 1)[1], (((2, 1, 2, 2), (1,)),))

    def test_lows_at_even_beats_and_highs_at_odd_ones(self):
        rng = random.Random(123)
        found = 0
        while found < 80:
            net, d, beats = drawn(rng), rng.choice((2, 3, 8, 9)), rng.choice((0, 1, 2, 7, 20))
            ends = toggle_ends(net)
            if ends is not None:
                found += 1
                run = toggle_run(net, d, ends, beats)
                self.assertIs(is_run(net, d, run), True)
                self.assertEqual(run[0][-2:], ends)
                self.assertEqual(run[0][:-2], run[0][2:])
                self.assertEqual(len(run[1]), beats)
                self.assertEqual(shown(net, d, run), (ends * beats)[:beats])

    def test_other_toggles_are_shown_too(self):
        for ends in (((1, 1), (3, 3)), ((2, 2), (3, 3))):
            self.assertEqual(shown(SWAP, 2, toggle_run(SWAP, 2, ends, 5)), (ends * 3)[:5])

    def test_2000_beats(self):
        for d in (2, 9):
            run = toggle_run(EVEN, d, TOGGLE, 2000)
            self.assertEqual(shown(EVEN, d, run), TOGGLE * 1000)


if __name__ == "__main__":
    unittest.main()

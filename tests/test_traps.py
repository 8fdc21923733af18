"""[46] and [47]: traps, and rest within them."""

import itertools
import random
import unittest

from newsbehind.beats import shown
from newsbehind.ends import first_ends, last_ends, next_ends
from newsbehind.errors import InvalidQuestion, Refused
from newsbehind.lateness import is_run
from newsbehind.nets import net_of
from newsbehind.toggles import toggle_run
from newsbehind.traps import is_trap, rest_within, toggle_within, trap_around
from sampling import ODD_VALUES, all_states, drawn_ends, drawn_run, drawn_state, one_way, small_net

TWO = net_of([3, 3], [("most", (("is", 1), ("hear", 1))), ("clip", 0, 2, ("hear", 0))])
FALLS = net_of([3, 3], [("from", 3, ("hear", 1)), ("most", (("is", 1), ("hear", 0)))])
BOTH = ("row", (0, 2, 1), ("hear", 0))


def within(ends, others):
    return all(low >= other for low, other in zip(ends[0], others[0])) and all(
        high <= other for high, other in zip(ends[1], others[1]))


def all_ends(net):
    return [(lows, highs) for lows in all_states(net) for highs in all_states(net)
            if all(low <= high for low, high in zip(lows, highs))]


class IsTrapTest(unittest.TestCase):
    def told(self, is_one, value, net=TWO):
        self.assertIs(is_trap(net, value), is_one, value)

    def test_by_hand(self):
        self.told(True, ((2, 2), (3, 3)))
        self.told(True, ((0, 0), (3, 3)))
        self.told(True, ((1, 1), (1, 1)))
        self.told(True, ((1, 1), (2, 2)))
        self.told(False, ((0, 0), (0, 0)))
        self.told(False, ((0, 3), (3, 3)))
        self.told(False, ((1, 1), (1, 2)))
        self.told(True, ((1, 1), (2, 2)), FALLS)
        self.told(True, ((0, 0), (2, 3)), net_of([3, 3], [("from", 2, ("hear", 1)), ("hear", 0)]))
        self.told(False, ((0, 1), (2, 2)), net_of([3, 3], [("from", 2, ("hear", 1)), ("hear", 0)]))
        self.told(False, ((0, 2), (2, 3)), FALLS)

    def test_a_low_below_and_a_high_above(self):
        net = net_of([3], [("hear", 0)])
        for low, high in itertools.combinations_with_replacement(range(4), 2):
            self.told(True, ((low,), (high,)), net)
        up = net_of([3], [("add", (("hear", 0), ("is", 1)))])
        down = net_of([3], [("from", 3, ("add", (("is", 1), ("from", 3, ("hear", 0)))))])
        for low, high in itertools.combinations_with_replacement(range(4), 2):
            self.told(high == 3, ((low,), (high,)), up)
            self.told(low == 0, ((low,), (high,)), down)

    def test_no_ends(self):
        for value in (((3, 3), (2, 2)), ((0, 0), (3, 4)), ((0, -1), (3, 3)), ((0,), (3,)), ((0, 0, 0), (3, 3, 3)), [(0, 0), (3, 3)],
                      ([0, 0], (3, 3)), ((0, 0), [3, 3]), ((False, 0), (3, 3)), ((0, 0),), ((0, 0), (3, 3), ()), ((0, 0), (3, None))):
            self.told(False, value)
        for value in ODD_VALUES:
            self.told(False, value)
            self.told(False, ((0, 0), value))
            self.told(False, (value, (3, 3)))

    def test_all_ends_of_small_nets(self):
        rng = random.Random(461)
        seen = [0, 0]
        for _ in range(60):
            net = one_way(rng, small_net(rng, houses=2, top=2))
            for ends in all_ends(net):
                is_one = within(next_ends(net, ends), ends)
                self.told(is_one, ends, net)
                seen[is_one] += 1
            self.told(True, first_ends(net), net)
            self.told(True, last_ends(net), net)
        self.assertGreater(min(seen), 100)

    def test_nothing_leads_out(self):
        rng = random.Random(462)
        seen = 0
        while seen < 100:
            net = one_way(rng, small_net(rng))
            ends = drawn_ends(rng, net)
            if is_trap(net, ends):
                seen += 1
                past = tuple(tuple(rng.randint(low, high) for low, high in zip(*ends)) for _ in range(3))
                for state in shown(net, 3, (past, drawn_run(rng, net, 3, 12)[1])):
                    self.assertTrue(within((state, state), ends))

    def test_where_two_traps_meet_there_is_one(self):
        rng = random.Random(463)
        met = 0
        for _ in range(60):
            net = one_way(rng, small_net(rng, houses=2, top=2))
            traps = [ends for ends in all_ends(net) if is_trap(net, ends)]
            for one, other in itertools.combinations(traps, 2):
                common = (tuple(map(max, one[0], other[0])), tuple(map(min, one[1], other[1])))
                if all(low <= high for low, high in zip(*common)):
                    met += 1
                    self.told(True, common, net)
        self.assertGreater(met, 300)

    def test_a_branch_that_goes_both_ways(self):
        for rules, house in (((BOTH, BOTH), 0), ((("is", 0), BOTH), 1)):
            net = net_of([2, 2], rules)
            for ask, value in itertools.product((is_trap, rest_within, toggle_within), (((0, 0), (2, 2)), None, 7, ((2, 2), (0, 0)))):
                with self.assertRaises(Refused) as caught:
                    ask(net, value)
                self.assertEqual(caught.exception.at, house)
            with self.assertRaises(Refused) as caught:
                trap_around(net, (0, 0))
            self.assertEqual(caught.exception.at, house)


class TrapAroundTest(unittest.TestCase):
    def test_by_hand(self):
        self.assertEqual(trap_around(TWO, (3, 1)), ((1, 1), (3, 2)))
        self.assertEqual(trap_around(TWO, (1, 1)), ((1, 1), (1, 1)))
        self.assertEqual(trap_around(TWO, (0, 0)), ((0, 0), (1, 1)))
        self.assertEqual(trap_around(net_of([9], [("add", (("hear", 0), ("is", 1)))]), (4,)), ((4,), (9,)))
        self.assertEqual(trap_around(FALLS, (1, 1)), ((1, 1), (2, 2)))

    def test_the_least_one_of_all(self):
        rng = random.Random(464)
        for _ in range(40):
            net = one_way(rng, small_net(rng, houses=2, top=3))
            traps = [ends for ends in all_ends(net) if is_trap(net, ends)]
            for state in all_states(net):
                told = trap_around(net, state)
                around = [ends for ends in traps if within((state, state), ends)]
                self.assertIn(told, around)
                self.assertTrue(all(within(told, ends) for ends in around))

    def test_great_nets(self):
        net = net_of([1000] * 20, [("add", (("hear", 19), ("is", 1)))] + [("hear", house) for house in range(19)])
        self.assertEqual(trap_around(net, (0,) * 20), ((0,) * 20, (1000,) * 20))
        self.assertEqual(trap_around(net, (1000,) * 20), ((1000,) * 20,) * 2)


class WithinTest(unittest.TestCase):
    def refused(self, net, value):
        for ask in rest_within, toggle_within:
            with self.assertRaises(InvalidQuestion) as caught:
                ask(net, value)
            self.assertEqual(caught.exception.at, 1)

    def test_by_hand(self):
        self.assertEqual((rest_within(TWO, ((2, 2), (3, 3))), toggle_within(TWO, ((2, 2), (3, 3)))), ((2, 2), None))
        self.assertEqual((rest_within(TWO, ((0, 0), (3, 3))), toggle_within(TWO, ((0, 0), (3, 3)))), (None, ((1, 1), (2, 2))))
        self.assertEqual((rest_within(TWO, ((0, 0), (1, 1))), toggle_within(TWO, ((0, 0), (1, 1)))), ((1, 1), None))
        self.assertEqual((rest_within(TWO, ((1, 1), (1, 1))), toggle_within(TWO, ((1, 1), (1, 1)))), ((1, 1), None))
        self.assertEqual(toggle_within(FALLS, ((0, 0), (3, 3))), ((1, 1), (2, 2)))

    def test_what_is_no_trap(self):
        for value in (((0, 0), (0, 0)), ((1, 1), (1, 2)), ((3, 3), (2, 2)), ((0, 0), (3, 4)), [(2, 2), (3, 3)], ((2, 2), (3, True)),
                      ((2, 2),), ((2, 2, 2), (3, 3, 3))) + ODD_VALUES:
            self.refused(TWO, value)

    def test_as_next_ends_tell(self):
        rng = random.Random(471)
        seen = {"rest": 0, "toggle": 0, "none": 0}
        for _ in range(60):
            net = one_way(rng, small_net(rng, houses=2, top=3))
            for ends in all_ends(net)[::3]:
                later = next_ends(net, ends)
                if not within(later, ends):
                    self.refused(net, ends)
                    seen["none"] += 1
                    continue
                trap = ends
                while later != ends:
                    ends, later = later, next_ends(net, later)
                rests = ends[0] == ends[1]
                self.assertEqual(rest_within(net, trap), ends[0] if rests else None)
                self.assertEqual(toggle_within(net, trap), None if rests else ends)
                seen["rest" if rests else "toggle"] += 1
        self.assertGreater(min(seen.values()), 100)

    def test_runs_within(self):
        rng = random.Random(472)
        seen = {"rest": 0, "toggle": 0}
        while min(seen.values()) < 40:
            net = one_way(rng, small_net(rng))
            trap = trap_around(net, drawn_state(rng, net))
            rest, toggle = rest_within(net, trap), toggle_within(net, trap)
            d = rng.choice((2, 3))
            if toggle:
                seen["toggle"] += 1
                run = toggle_run(net, d, toggle, 7)
                self.assertIs(is_run(net, d, run), True)
                self.assertTrue(all(within((state, state), trap) for state in run[0]))
                self.assertEqual(shown(net, d, run), (toggle * 4)[:7])
            else:
                seen["rest"] += 1
                past = tuple(tuple(rng.randint(low, high) for low, high in zip(*trap)) for _ in range(d))
                states = shown(net, d, (past, drawn_run(rng, net, d, 60)[1]))
                self.assertEqual(states[-1], rest)


if __name__ == "__main__":
    unittest.main()

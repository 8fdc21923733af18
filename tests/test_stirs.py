"""[48]: stirs, and what is left of them by a lot."""

import itertools
import random
import unittest

from newsbehind.ends import next_ends
from newsbehind.errors import Refused
from newsbehind.nets import fixed, is_rest, net_of
from newsbehind.resting import rests_always
from newsbehind.rests import rests
from newsbehind.stirs import fixed_lot, is_stir, stir_left, unrest
from newsbehind.ways import are_one_way
from sampling import ODD_VALUES, all_states, drawn_ends, one_way, small_net

NET = net_of([2, 2, 2], [("hear", 1), ("hear", 0), ("most", (("hear", 0), ("hear", 2)))])
REST = (1, 1, 1)
BOTH = ("row", (0, 2, 1), ("hear", 0))


def net_and_rest(rng, houses=3, top=2):
    """A net without a branch that goes both ways, and one of its rests."""
    while True:
        net = one_way(rng, small_net(rng, houses=houses, top=top))
        found = rests(net, 10 ** 6)
        if found:
            return net, rng.choice(found)


def all_lots(houses):
    return [lot for many in range(houses + 1) for lot in itertools.combinations(range(houses), many)]


def slow_is_stir(net, rest, ends):
    lows, highs = next_ends(net, ends)
    return ends[0] != ends[1] and all(
        lows[at] <= ends[0][at] <= rest[at] <= ends[1][at] <= highs[at] for at in range(len(rest)))


def all_stirs(net, rest):
    return [(lows, highs) for lows in all_states(net) for highs in all_states(net)
            if all(low <= high for low, high in zip(lows, highs)) and slow_is_stir(net, rest, (lows, highs))]


class FixedLotTest(unittest.TestCase):
    def test_lots(self):
        self.assertEqual(fixed_lot(NET, REST, ()), NET)
        self.assertEqual(fixed_lot(NET, REST, (0, 2)), fixed(fixed(NET, 0, 1), 2, 1))
        self.assertEqual(fixed_lot(NET, (2, 0, 1), (0, 1, 2)), net_of([2, 2, 2], [("is", 2), ("is", 0), ("is", 1)]))

    def test_any_net(self):
        net = net_of([2, 2], [BOTH, ("hear", 0)])
        self.assertIs(are_one_way(net), False)
        self.assertEqual(fixed_lot(net, (1, 1), (1,)), net_of([2, 2], [BOTH, ("is", 1)]))
        self.assertEqual(fixed_lot(net, (2, 1), (0,)), net_of([2, 2], [("is", 2), ("hear", 0)]))

    def test_the_rest_stays_one(self):
        rng = random.Random(481)
        for _ in range(60):
            net, rest = net_and_rest(rng)
            for lot in all_lots(3):
                self.assertIs(is_rest(fixed_lot(net, rest, lot), rest), True)


class UnrestTest(unittest.TestCase):
    def test_unlike_ones(self):
        self.assertEqual(unrest(((0, 1, 2), (0, 2, 3))), (1, 2))
        self.assertEqual(unrest(((0, 1), (0, 1))), ())
        self.assertEqual(unrest(((0,), (1,))), (0,))
        rng = random.Random(482)
        for _ in range(50):
            net = small_net(rng, houses=5)
            lows, highs = drawn_ends(rng, net)
            self.assertEqual(unrest((lows, highs)), tuple(at for at in range(5) if lows[at] != highs[at]))


class IsStirTest(unittest.TestCase):
    def told(self, is_one, value, net=NET, rest=REST):
        self.assertIs(is_stir(net, rest, value), is_one, value)

    def test_by_hand(self):
        self.told(True, ((0, 0, 1), (2, 2, 2)))
        self.told(True, ((0, 0, 1), (2, 2, 1)))
        self.told(True, ((1, 1, 1), (1, 1, 2)))
        self.told(True, ((0, 0, 0), (1, 1, 1)))
        # House 0 hears a house whose high is less than its own.
        self.told(False, ((1, 1, 1), (2, 1, 1)))
        self.told(False, ((1, 0, 1), (1, 1, 1)))

    def test_the_same_state_twice(self):
        self.told(False, (REST, REST))
        self.told(False, ((1, 1, 2), (1, 1, 2)))

    def test_ends_that_do_not_hold_the_rest(self):
        self.told(False, ((2, 2, 1), (2, 2, 2)))
        self.told(False, ((0, 0, 0), (0, 0, 1)))
        self.told(False, ((0, 0, 2), (2, 2, 2)))
        self.told(True, ((1, 1, 1), (2, 2, 2)), rest=(2, 2, 2))
        self.told(False, ((0, 0, 1), (0, 0, 2)))
        self.told(True, ((0, 0, 1), (0, 0, 2)), rest=(0, 0, 2))

    def test_no_ends(self):
        for value in (((2, 2, 2), (0, 0, 1)), ((0, 0, 1), (2, 2, 3)), ((0, 0), (2, 2)), ((-1, 0, 1), (2, 2, 2)), [(0, 0, 1), (2, 2, 2)],
                      ([0, 0, 1], (2, 2, 2)), ((0, 0, True), (2, 2, 2)), ((0, 0, 1),), ((0, 0, 1), (2, 2, 2), ())) + ODD_VALUES:
            self.told(False, value)

    def test_all_ends_of_small_nets(self):
        rng = random.Random(483)
        seen = [0, 0]
        for _ in range(60):
            net, rest = net_and_rest(rng, houses=2)
            for lows in all_states(net):
                for highs in all_states(net):
                    is_one = all(low <= high for low, high in zip(lows, highs)) and slow_is_stir(net, rest, (lows, highs))
                    self.told(is_one, (lows, highs), net, rest)
                    seen[is_one] += 1
        self.assertGreater(min(seen), 100)

    def test_a_branch_that_goes_both_ways(self):
        for house in range(3):
            rules = [("is", 0)] * house + [BOTH] * (3 - house)
            net = net_of([2, 2, 2], rules)
            for ask in (lambda: is_stir(net, (0, 0, 0), None), lambda: stir_left(net, (0, 0, 0), (0, 1, 2))):
                with self.assertRaises(Refused) as caught:
                    ask()
                self.assertEqual(caught.exception.at, house)


class StirLeftTest(unittest.TestCase):
    def test_by_hand(self):
        self.assertEqual(stir_left(NET, REST, (0,)), ((1, 1, 1), (1, 1, 2)))
        self.assertIs(stir_left(NET, REST, (0, 2)), None)
        self.assertIs(stir_left(NET, REST, (0, 1, 2)), None)
        self.assertIs(is_stir(NET, REST, stir_left(NET, REST, ())), True)
        self.assertIs(stir_left(net_of([2], [("part", 2, ("hear", 0))]), (0,), ()), None)

    def test_drawn_nets(self):
        rng = random.Random(484)
        seen = [0, 0]
        for _ in range(120):
            net, rest = net_and_rest(rng)
            for lot in all_lots(3):
                told = stir_left(net, rest, lot)
                calm = rests_always(fixed_lot(net, rest, lot))
                seen[calm] += 1
                self.assertIs(told is None, calm)
                if told:
                    self.assertTrue(slow_is_stir(net, rest, told))
                    self.assertIs(is_stir(net, rest, told), True)
                    self.assertEqual(set(unrest(told)) & set(lot), set())
        self.assertGreater(min(seen), 100)

    def test_a_lot_of_a_great_net(self):
        rng = random.Random(485)
        net = net_of([1000] * 20, [("most", (("hear", (house + 1) % 20), ("from", 1000, ("is", 400)))) for house in range(20)])
        rest = (700,) * 20
        for many in (0, 1, 20):
            lot = tuple(sorted(rng.sample(range(20), many)))
            told = stir_left(net, rest, lot)
            self.assertEqual(told, ((600,) * 20, (1000,) * 20) if many == 0 else None)


if __name__ == "__main__":
    unittest.main()

"""[39] and [40]: prices and swings for a share, and the least share."""

import itertools
import random
import unittest
from fractions import Fraction

from newsbehind.pricing import are_prices, are_swinging, price_sums, priced
from newsbehind.ratios import is_fraction
from newsbehind.shares import are_below, is_share_paper, priced_below, share_between
from newsbehind.tablenets import table_net_of
from newsbehind.tablerests import share
from sampling import ODD_VALUES
from tables import ODD_RATIOS, drawn_table_net, great_table_net, pair_of, sums_of, value_of

NET = table_net_of([[0, (1, 2)], [-1, (1, 4)]], [1, 0])
# A ring of 4 and 1: its least share is 2.
RING = table_net_of([[0, -4], [1, 0]], [0, 0])


def slow_kinds(net, by, numbers):
    sums = sums_of(net, numbers)
    at_least = all(total >= by * number for total, number in zip(sums, numbers))
    less = all(total < by * number for total, number in zip(sums, numbers))
    return min(numbers) >= 1 and less, min(numbers) >= 0 and max(numbers) > 0 and at_least


class PricedBelowTest(unittest.TestCase):
    def holds(self, net, by):
        kind, numbers = priced_below(net, by)
        prices, swing = slow_kinds(net, value_of(by), numbers)
        self.assertEqual((prices, swing), (kind == "prices", kind == "swing"))
        self.assertIs(are_below(net, by, (kind, numbers)), True)
        self.assertIs(are_below(net, by, ({"prices": "swing", "swing": "prices"}[kind], numbers)), False)
        return kind

    def test_at_the_least_share(self):
        for net, least in ((RING, Fraction(2)), (table_net_of([[(-3, 7)]], [0]), Fraction(3, 7)),
                           (table_net_of([[0, (1, 9)], [1, 0]], [0, 0]), Fraction(1, 3)),
                           (table_net_of([[5, 0], [1000, (1, 2)]], [0, 0]), Fraction(5))):
            for less in (least / 1000, least / 2, least - Fraction(1, 10 ** 50), least):
                self.assertEqual(self.holds(net, pair_of(less)), "swing")
            for more in (least + Fraction(1, 10 ** 50), least * 2, least * 10 ** 300):
                self.assertEqual(self.holds(net, pair_of(more)), "prices")

    def test_a_least_share_of_0(self):
        net = table_net_of([[0, 1000, 5], [0, 0, -1000], [0, 0, 0]], [0, 0, 0])
        for by in ((1, 1), (1, 10 ** 300), (1000, 1)):
            self.assertEqual(self.holds(net, by), "prices")

    def test_the_share_1(self):
        rng = random.Random(391)
        for _ in range(150):
            net = drawn_table_net(rng, most=2)
            kind, numbers = priced_below(net, (1, 1))
            self.assertEqual(kind, priced(net)[0])
            self.assertEqual((are_prices(net, numbers), are_swinging(net, numbers)), (kind == "prices", kind == "swing"))
            for value in (priced(net), (kind, numbers), ("prices", numbers), ("swing", numbers)):
                own = are_prices if value[0] == "prices" else are_swinging
                self.assertIs(are_below(net, (1, 1), value), own(net, value[1]))

    def test_drawn_nets_and_shares(self):
        rng = random.Random(392)
        seen = {"prices": 0, "swing": 0}
        for _ in range(400):
            net = drawn_table_net(rng, most=rng.choice((1, 3, 9)))
            seen[self.holds(net, pair_of(Fraction(rng.randint(1, 40), rng.choice((1, 3, 7, 20)))))] += 1
        self.assertGreater(min(seen.values()), 80)

    def test_by_its_name(self):
        self.assertEqual(priced_below(net=NET, by=(1, 2))[0], "swing")
        self.assertIs(are_below(net=NET, by=(1, 2), value=("swing", (1, 1))), True)


class AreBelowTest(unittest.TestCase):
    def told(self, is_one, by, value, net=RING):
        self.assertIs(are_below(net, by, value), is_one, value)

    def test_sums_just_as_great(self):
        self.told(True, (2, 1), ("swing", (2, 1)))
        self.told(False, (2, 1), ("prices", (2, 1)))
        self.told(True, (2001, 1000), ("prices", (2, 1)))
        self.told(False, (2001, 1000), ("swing", (2, 1)))
        self.told(True, (1999, 1000), ("swing", (2, 1)))
        self.told(False, (1999, 1000), ("prices", (2, 1)))
        self.told(False, (3, 2), ("swing", (1, 1)))
        self.told(True, (1, 1), ("swing", (1, 1)))
        self.told(False, (1, 1), ("prices", (1, 1)))
        self.told(True, (1, 2), ("swing", (1, 1)), NET)
        self.told(True, (1, 1), ("prices", (2, 3)), NET)
        self.told(False, (11, 12), ("prices", (2, 3)), NET)
        self.told(True, (12, 13), ("prices", (2, 3)), NET)

    def test_all_small_numbers(self):
        rng = random.Random(393)
        for _ in range(40):
            net = drawn_table_net(rng, houses=2, most=2)
            by = pair_of(Fraction(rng.randint(1, 9), rng.randint(1, 4)))
            for numbers in itertools.product(range(-1, 5), repeat=2):
                prices, swing = slow_kinds(net, value_of(by), numbers)
                self.told(prices, by, ("prices", numbers), net)
                self.told(swing, by, ("swing", numbers), net)

    def test_other_values(self):
        for value in ODD_VALUES:
            self.told(False, (1, 1), value)
            self.told(False, (1, 1), ("swing", value))
            self.told(False, (9, 1), ("prices", value))
            self.told(False, (1, 1), (value, (1, 1)))
        for value in (["swing", (1, 1)], ("swing", [1, 1]), ("swing", (1, 1), ()), ("swing",), ("swing", (1,)), ("swing", (1, 1, 1)),
                      ("swing", (0, 0)), ("swing", (True, 1)), ("Swing", (1, 1)), (b"swing", (1, 1)), ("", (1, 1)), "swing",
                      (("swing",), (1, 1)), (["swing"], (1, 1)), ("swing", (1, -1)), ("swing", (1.0, 1.0)), ("both", (1, 1))):
            self.told(False, (1, 1), value)
        for value in (("prices", [2, 1]), ("prices", (True, True)), ("prices", (2,)), ("prices", (0, 0)), ("prices", (-2, -1))):
            self.told(False, (9, 1), value)


class ShareBetweenTest(unittest.TestCase):
    def holds(self, net, halvings):
        told = share_between(net, halvings)
        low, high, prices, swing = told
        self.assertIs(is_share_paper(net, told), True)
        # The same halvings, asked of the pivots of Python's own fractions by way of priced_below.
        under, over = Fraction(0), max(sums_of(net, [1] * len(net[0]))) + 1
        for _ in range(halvings):
            between = (under + over) / 2
            if priced_below(net, pair_of(between))[0] == "prices":
                over = between
            else:
                under = between
        self.assertEqual((low, high), (pair_of(under), pair_of(over)))
        self.assertIs(slow_kinds(net, over, prices)[0], True)
        self.assertIs(slow_kinds(net, under, swing)[1], True)
        if under == 0:
            self.assertEqual(swing, (1,) * len(net[0]))
        return told

    def test_by_hand(self):
        self.assertEqual(self.holds(NET, 4)[:2], ((45, 64), (27, 32)))
        self.assertEqual(self.holds(NET, 0)[:2], ((0, 1), (9, 4)))
        self.assertEqual(self.holds(RING, 0)[:2], ((0, 1), (5, 1)))
        self.assertEqual(self.holds(RING, 1)[:2], ((0, 1), (5, 2)))
        self.assertEqual(self.holds(RING, 2)[:2], ((5, 4), (5, 2)))
        self.assertEqual(self.holds(RING, 3)[:2], ((15, 8), (5, 2)))
        self.assertEqual(self.holds(table_net_of([[0]], [4]), 3)[:2], ((0, 1), (1, 8)))
        # The middle is the least share itself, which has no prices.
        self.assertEqual(self.holds(table_net_of([[1]], [0]), 1)[:2], ((1, 1), (2, 1)))

    def test_20_halvings(self):
        low, high, _, _ = self.holds(RING, 20)
        self.assertEqual(value_of(high) - value_of(low), Fraction(5, 2 ** 20))
        self.assertTrue(value_of(low) <= 2 < value_of(high))
        low, high, _, swing = self.holds(table_net_of([[0, 7], [0, 0]], [0, 0]), 20)
        self.assertEqual((low, high, swing), ((0, 1), (1, 2 ** 17), (1, 1)))

    def test_drawn_nets(self):
        rng = random.Random(401)
        for _ in range(60):
            net = drawn_table_net(rng, most=rng.choice((1, 3)))
            low, high, prices, swing = self.holds(net, rng.choice((0, 1, 2, 7)))
            self.assertIs(value_of(low) < value_of(high), True)
            if value_of(high) <= 1:
                self.assertEqual(priced(net)[0], "prices")
                self.assertLess(value_of(share(net, prices)), value_of(high))
            if value_of(low) >= 1:
                self.assertEqual(priced(net)[0], "swing")
                self.assertIs(are_swinging(net, swing), True)

    def test_great_nets(self):
        net = great_table_net(random.Random(402), most=1000)
        told = share_between(net, 20)
        self.assertIs(is_share_paper(net, told), True)
        width = max(map(value_of, price_sums(net, (1,) * 20))) + 1
        self.assertEqual(value_of(told[1]) - value_of(told[0]), width / 2 ** 20)


class IsSharePaperTest(unittest.TestCase):
    def told(self, is_one, value, net=RING):
        self.assertIs(is_share_paper(net, value), is_one, value)

    def test_papers(self):
        self.told(True, ((0, 1), (5, 1), (1, 1), (1, 1)))
        self.told(True, ((2, 1), (5, 2), (2, 1), (2, 1)))
        self.told(True, ((1, 1), (3, 1), (2, 1), (1, 1)))

    def test_low_at_0(self):
        for swing, is_one in (((1, 0), True), ((0, 1), True), ((9, 1), True), ((0, 0), False), ((-1, 1), False), ((1,), False),
                              ((1, 1, 1), False), ([1, 1], False), ((True, 1), False)):
            self.told(is_one, ((0, 1), (5, 1), (1, 1), swing))
        self.told(False, ((-1, 1), (5, 1), (1, 1), (1, 1)))
        self.told(False, ((0, 2), (5, 1), (1, 1), (1, 1)))

    def test_low_above_0(self):
        self.told(True, ((2, 1), (5, 1), (1, 1), (2, 1)))
        self.told(False, ((2, 1), (5, 1), (1, 1), (1, 1)))
        self.told(False, ((2, 1), (5, 1), (1, 1), (0, 0)))
        self.told(False, ((2001, 1000), (5, 1), (1, 1), (2, 1)))

    def test_prices_for_high(self):
        self.told(False, ((0, 1), (2, 1), (2, 1), (1, 1)))
        self.told(True, ((0, 1), (2001, 1000), (2, 1), (1, 1)))
        self.told(False, ((0, 1), (4, 1), (1, 1), (1, 1)))
        for prices in ((0, 0), (1,), (1, 1, 1), [1, 1], (True, 1), None):
            self.told(False, ((0, 1), (5, 1), prices, (1, 1)))

    def test_low_not_below_high(self):
        net = table_net_of([[0, 0], [0, 1]], [0, 0])
        self.told(True, ((1, 1), (2, 1), (1, 1), (0, 1)), net)
        for low, high in (((1, 1), (1, 1)), ((1, 1), (1, 2)), ((3, 2), (1, 1)), ((0, 1), (0, 1)), ((0, 1), (-1, 1))):
            self.told(False, (low, high, (1, 1), (0, 1)), net)
        # Of tables of 0 alone each share has prices; low and high may not be alike all the same.
        none = table_net_of([[0]], [0])
        self.told(False, ((0, 1), (0, 1), (1,), (1,)), none)
        self.told(True, ((0, 1), (1, 10 ** 399), (1,), (1,)), none)

    def test_other_values(self):
        good = ((0, 1), (5, 1), (1, 1), (1, 1))
        for value in ODD_RATIOS:
            self.told(False, (value,) + good[1:])
            self.told(False, good[:1] + (value,) + good[2:])
        for value in ODD_VALUES:
            self.told(False, value)
            for at in range(4):
                self.told(False, good[:at] + (value,) + good[at + 1:])
        self.told(False, list(good))
        self.told(False, good + ((),))
        self.told(False, good[:3])
        self.assertTrue(all(is_fraction(ratio) for ratio in good[:2]))


if __name__ == "__main__":
    unittest.main()

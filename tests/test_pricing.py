"""[34] and [35]: prices, swings and pivots."""

import itertools
import random
import unittest
from fractions import Fraction

from newsbehind.pricing import are_prices, are_swinging, pivots, price_sums, priced
from newsbehind.tablenets import table_net_of
from sampling import ODD_VALUES
from tables import drawn_table_net, great_table_net, pair_of, sizes_of, sums_of, value_of

NET = table_net_of([[0, (1, 2)], [-1, (1, 4)]], [1, 0])


def slow_pivots(net):
    rows = [[(at == house) - size for at, size in enumerate(row)] for house, row in enumerate(sizes_of(net))]
    told = []
    for at, row in enumerate(rows):
        told.append(row[at])
        if row[at] <= 0:
            break
        for later in rows[at + 1:]:
            many = later[at] / row[at]
            for column, entry in enumerate(row):
                later[column] -= many * entry
    return told


class SumsTest(unittest.TestCase):
    def test_by_hand(self):
        self.assertEqual(price_sums(NET, (2, 3)), ((3, 2), (11, 4)))
        self.assertEqual(price_sums(NET, (0, 0)), ((0, 1), (0, 1)))
        self.assertEqual(price_sums(NET, (-4, 2)), ((1, 1), (-7, 2)))
        self.assertEqual(price_sums(table_net_of([[0]], [7]), (9,)), ((0, 1),))

    def test_as_pythons_own(self):
        rng = random.Random(341)
        for _ in range(150):
            net = drawn_table_net(rng, most=1000, dens=(1, 7, 11))
            prices = tuple(rng.randint(-9, 10 ** 6) for _ in net[0])
            self.assertEqual(price_sums(net, prices), tuple(map(pair_of, sums_of(net, prices))))


class WhetherTest(unittest.TestCase):
    def told(self, prices, swinging, value, net=NET):
        self.assertIs(are_prices(net, value), prices, value)
        self.assertIs(are_swinging(net, value), swinging, value)

    def test_sums_just_as_great(self):
        half = table_net_of([[(1, 2), (-1, 2)], [0, (1, 3)]], [0, 0])
        # House 0's sum is its price with (2, 2); with (2, 1) it is less, with (1, 2) more.
        self.told(False, False, (2, 2), half)
        self.told(True, False, (2, 1), half)
        self.told(False, False, (1, 2), half)
        even = table_net_of([[0, 1], [-1, 0]], [0, 0])
        self.told(False, True, (1, 1), even)
        self.told(False, False, (1, 2), even)
        self.told(False, True, (7, 7), even)

    def test_prices_of_0_and_below(self):
        none = table_net_of([[0, 0], [0, 0]], [0, 0])
        self.told(True, False, (1, 1), none)
        for value in ((0, 1), (1, 0), (-1, 1), (1, -1), (0, 0)):
            self.told(False, False, value, none)

    def test_swings_of_0_and_below(self):
        ring = table_net_of([[0, 2], [2, 0]], [0, 0])
        self.told(False, True, (1, 1), ring)
        self.told(False, True, (2, 1), ring)
        self.told(False, False, (3, 1), ring)
        for value in ((0, 0), (-1, -1), (-1, 1), (1, -1), (0, -1)):
            self.told(False, False, value, ring)
        own = table_net_of([[2, 0], [0, 0]], [0, 0])
        self.told(False, True, (1, 0), own)
        self.told(False, False, (0, 1), own)
        self.told(False, False, (1, 1), own)

    def test_entries_below_0_count_without_sign(self):
        for one, other in itertools.product((-1, 1), repeat=2):
            net = table_net_of([[0, one], [(other, 2), 0]], [0, 0])
            self.told(True, False, (3, 2), net)
            self.told(False, False, (1, 1), net)

    def test_other_lengths_and_kinds(self):
        self.told(True, False, (2, 3))
        for value in ((2,), (2, 3, 1), (), [2, 3], (True, 3), (2, True), (2, 3.0), (2, None), (2, "3"), ((2, 1), (3, 1)), "23"):
            self.told(False, False, value)
        even = table_net_of([[1]], [0])
        self.told(False, True, (1,), even)
        for value in ((), (1, 1), [1], (True,), (1.0,), ((1, 1),), 1, True, ("1",)):
            self.told(False, False, value, even)
        for value in ODD_VALUES:
            self.told(False, False, value)
            self.told(False, type(value) is int and value > 0, (value,), even)

    def test_great_numbers(self):
        most = 10 ** 400 - 1
        self.told(False, True, (most,), table_net_of([[1]], [0]))
        self.told(True, False, (most,), table_net_of([[(999, 1000)]], [0]))
        self.told(True, False, (most, most - 1), table_net_of([[0, 1], [0, 0]], [0, 0]))
        self.told(False, False, (most - 1, most), table_net_of([[0, 1], [0, 0]], [0, 0]))


class PricedTest(unittest.TestCase):
    def holds(self, net):
        kind, numbers = priced(net)
        self.assertEqual((are_prices(net, numbers), are_swinging(net, numbers)), (kind == "prices", kind == "swing"))
        sums = sums_of(net, numbers)
        self.assertIs(all(total < price for total, price in zip(sums, numbers)), kind == "prices")
        self.assertIs(all(total >= price for total, price in zip(sums, numbers)), kind == "swing")
        self.assertIs(type(numbers), tuple)
        return kind

    def test_by_hand(self):
        self.assertEqual(self.holds(NET), "prices")
        for entry, kind in (((999, 1000), "prices"), ((1000, 1000), "swing"), ((-999, 1000), "prices"), (-1, "swing"),
                            (1000, "swing"), (0, "prices"), ((1, 1000), "prices"), (-1000, "swing")):
            self.assertEqual(self.holds(table_net_of([[entry]], [0])), kind)

    def test_the_edge(self):
        # A product of 1 round the ring: the last pivot is just 0.
        for one, other, kind in ((2, (1, 2), "swing"), (2, (499, 999), "prices"), (2, (500, 999), "swing"),
                                 ((3, 7), (7, 3), "swing"), ((3, 7), (-7, 3), "swing"), ((3, 7), (333, 143), "prices")):
            net = table_net_of([[0, one], [other, 0]], [5, 5])
            self.assertEqual(self.holds(net), kind)
            self.assertEqual(self.holds(table_net_of([[0, other], [one, 0]], [0, 0])), kind)

    def test_zeros_and_houses_that_swing_late(self):
        net = table_net_of([[0, 0, 1], [1, 0, 0], [0, 1, 0]], [0, 0, 0])
        self.assertEqual(self.holds(net), "swing")
        net = table_net_of([[0, 0, 0], [1000, 0, 0], [1000, 1000, (999, 1000)]], [0, 0, 0])
        self.assertEqual(self.holds(net), "prices")
        net = table_net_of([[0, 0, 0], [1000, 0, 0], [1000, 1000, 1]], [0, 0, 0])
        self.assertEqual(self.holds(net), "swing")
        net = table_net_of([[1, 0, 0], [0, 2, 0], [0, 0, 3]], [0, 0, 0])
        self.assertEqual(self.holds(net), "swing")

    def test_drawn_nets(self):
        rng = random.Random(342)
        seen = {"prices": 0, "swing": 0}
        for _ in range(500):
            seen[self.holds(drawn_table_net(rng, most=rng.choice((1, 2, 4)), none=rng.choice((0, 0.3, 0.7))))] += 1
        self.assertGreater(min(seen.values()), 100)

    def test_no_net_has_both(self):
        rng = random.Random(343)
        for _ in range(60):
            net = drawn_table_net(rng, houses=rng.choice((1, 2, 3)), most=2)
            every = list(itertools.product(range(5), repeat=len(net[0])))
            told = [any(are_prices(net, value) for value in every), any(are_swinging(net, value) for value in every)]
            self.assertFalse(all(told))
            kind, _ = priced(net)
            self.assertFalse(told[kind == "prices"])

    def test_houses_called_otherwise(self):
        rng = random.Random(344)
        for _ in range(60):
            net = drawn_table_net(rng, houses=3)
            names = rng.sample(range(3), 3)
            table = [[None] * 3 for _ in range(3)]
            for house, other in itertools.product(range(3), repeat=2):
                table[names[house]][names[other]] = net[0][house][other]
            renamed = table_net_of(table, [0, 0, 0])
            kind, numbers = priced(net)
            self.assertEqual(priced(renamed)[0], kind)
            called = tuple(numbers[names.index(house)] for house in range(3))
            self.assertEqual((are_prices(renamed, called), are_swinging(renamed, called)), (kind == "prices", kind == "swing"))


class PivotsTest(unittest.TestCase):
    def test_by_hand(self):
        self.assertEqual(pivots(NET), ((1, 1), (1, 4)))
        self.assertEqual(pivots(table_net_of([[2]], [0])), ((-1, 1),))
        self.assertEqual(pivots(table_net_of([[1, 0], [0, 0]], [0, 0])), ((0, 1),))
        self.assertEqual(pivots(table_net_of([[0, 0], [0, 0]], [0, 0])), ((1, 1), (1, 1)))
        self.assertEqual(pivots(table_net_of([[(1, 2), (1, 3)], [(-3, 4), (1, 2)]], [0, 0])), ((1, 2), (0, 1)))
        # 1 - 1/4, then 1 - (1/2 * 1/3) / (3/4), then 1/2 less what both rows ahead leave of it.
        net = table_net_of([[(1, 4), (1, 2), 0], [(1, 3), 0, (1, 2)], [0, (1, 7), (1, 2)]], [0, 0, 0])
        self.assertEqual(pivots(net), ((3, 4), (7, 9), (20, 49)))
        net = table_net_of([[0, 0, 0], [0, 1, 0], [0, 0, 0]], [0, 0, 0])
        self.assertEqual(pivots(net), ((1, 1), (0, 1)))

    def test_as_pythons_own(self):
        rng = random.Random(345)
        for _ in range(300):
            net = drawn_table_net(rng, houses=rng.randint(1, 6), most=rng.choice((1, 2)))
            told = pivots(net)
            self.assertEqual(told, tuple(map(pair_of, slow_pivots(net))))
            self.assertIs(all(a > 0 for a, _ in told) and len(told) == len(net[0]), priced(net)[0] == "prices")

    def test_great_nets(self):
        rng = random.Random(346)
        kinds = set()
        for most in (40, 66, 90, 1000):
            net = great_table_net(rng, most=most)
            told = pivots(net)
            self.assertEqual([value_of(ratio) for ratio in told], slow_pivots(net))
            kind, numbers = priced(net)
            kinds.add(kind)
            self.assertIs((are_prices if kind == "prices" else are_swinging)(net, numbers), True)
            self.assertEqual(Fraction(*told[-1]) > 0, kind == "prices")
        self.assertEqual(kinds, {"prices", "swing"})


if __name__ == "__main__":
    unittest.main()

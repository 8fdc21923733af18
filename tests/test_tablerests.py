"""[36]: rests of table nets, shares, and how far states are."""

import random
import unittest
from fractions import Fraction

from newsbehind.pricing import priced
from newsbehind.ratios import is_fraction
from newsbehind.tablenets import table_branches, table_net_of, table_wanted
from newsbehind.tablerests import farthest, has_one_rest, share, some_rest
from newsbehind.tableruns import table_states
from tables import (
    drawn_table_net, drawn_table_run, great_table_net, pair_of, slow_next, sums_of, table_of, value_of,
)

NET = table_net_of([[0, (1, 2)], [-1, (1, 4)]], [1, 0])


def is_table_rest(net, state):
    return slow_next(net, [value_of(worth) for worth in state]) == [value_of(worth) for worth in state]


def rank_of(rows):
    rows = [list(row) for row in rows]
    rank = 0
    for column in range(len(rows[0])):
        at = next((at for at in range(rank, len(rows)) if rows[at][column]), None)
        if at is None:
            continue
        rows[rank], rows[at] = rows[at], rows[rank]
        for later in rows[rank + 1:]:
            many = later[column] / rows[rank][column]
            later[:] = [entry - many * ahead for entry, ahead in zip(later, rows[rank])]
        rank += 1
    return rank


def slow_counts(net):
    """How many rests there are, 2 for many, by the ranks of the equations."""
    table = table_of(net)
    rows = [[(at == house) - entry for at, entry in enumerate(row)] for house, row in enumerate(table)]
    rank = rank_of(rows)
    if rank < rank_of([row + [value_of(add)] for row, add in zip(rows, net[1])]):
        return 0
    return 1 if rank == len(rows) else 2


class RestTest(unittest.TestCase):
    def holds(self, net, many):
        rest = some_rest(net)
        self.assertEqual(rest is None, many == 0)
        self.assertIs(has_one_rest(net), many == 1)
        if rest is not None:
            self.assertTrue(type(rest) is tuple and len(rest) == len(net[0]))
            self.assertTrue(all(is_fraction(worth) for worth in rest))
            self.assertTrue(is_table_rest(net, rest))
            for house in range(len(rest)):
                heard = tuple(rest[other] for other in table_branches(net, house))
                self.assertEqual(table_wanted(net, house, heard), rest[house])
        return rest

    def test_one(self):
        self.assertEqual(self.holds(NET, 1), ((3, 5), (-4, 5)))
        self.assertEqual(self.holds(table_net_of([[0]], [(-7, 3)]), 1), ((-7, 3),))
        self.assertEqual(self.holds(table_net_of([[2]], [3]), 1), ((-3, 1),))
        self.assertEqual(self.holds(table_net_of([[0, 1], [-1, 0]], [1, 0]), 1), ((1, 2), (-1, 2)))

    def test_none(self):
        self.holds(table_net_of([[1]], [1]), 0)
        self.holds(table_net_of([[0, 1], [1, 0]], [1, 1]), 0)
        self.holds(table_net_of([[0, 0, 0], [0, 1, 0], [0, 0, 0]], [0, (1, 1000), 0]), 0)

    def test_many(self):
        self.holds(table_net_of([[1]], [0]), 2)
        self.holds(table_net_of([[0, 1], [1, 0]], [1, -1]), 2)
        self.holds(table_net_of([[1, 0, 0], [0, 0, 1], [0, 0, (1, 2)]], [0, 1, 1]), 2)
        self.holds(table_net_of([[1, 1, 0], [0, 1, 0], [0, 0, 1]], [-5, 0, 0]), 2)
        self.holds(table_net_of([[1] * 3] * 3, [0] * 3), 1)

    def test_rests_that_want_other_rows_first(self):
        # The first house's own entry leaves 0 on the diagonal.
        self.holds(table_net_of([[1, 1], [1, 0]], [1, 0]), 1)
        self.holds(table_net_of([[1, 1, 0], [0, 1, 1], [1, 0, 1]], [1, 2, 3]), 1)
        self.holds(table_net_of([[1, 0, 2], [0, 0, 3], [0, 0, 0]], [-4, 1, 2]), 2)

    def test_drawn_nets(self):
        rng = random.Random(361)
        seen = [0, 0, 0]
        for _ in range(600):
            net = drawn_table_net(rng, most=1, dens=(1, 1, 1, 2), none=0.4)
            if rng.random() < 0.5:
                net = net[0], tuple((0, 1) if rng.random() < 0.6 else add for add in net[1])
            many = slow_counts(net)
            seen[many] += 1
            self.holds(net, many)
        self.assertGreater(min(seen), 20)

    def test_great_nets(self):
        rng = random.Random(362)
        for most in (40, 1000):
            self.holds(great_table_net(rng, most=most), 1)

    def test_prices_tell_one_rest(self):
        rng = random.Random(363)
        for _ in range(100):
            net = drawn_table_net(rng, most=2)
            if priced(net)[0] == "prices":
                self.assertIs(has_one_rest(net), True)


class ShareTest(unittest.TestCase):
    def test_by_hand(self):
        self.assertEqual(share(NET, (2, 3)), (11, 12))
        self.assertEqual(share(table_net_of([[0]], [5]), (7,)), (0, 1))
        self.assertEqual(share(table_net_of([[(-1, 2)]], [5]), (7,)), (1, 2))
        self.assertEqual(share(table_net_of([[0, (2, 3)], [(-1, 2), 0]], [0, 0]), (1, 1)), (2, 3))
        self.assertEqual(share(table_net_of([[0, (2, 3)], [(-1, 2), 0]], [0, 0]), (4, 3)), (2, 3))
        self.assertEqual(share(table_net_of([[0, (2, 3)], [(-1, 2), 0]], [0, 0]), (3, 2)), (3, 4))

    def test_as_pythons_own(self):
        rng = random.Random(364)
        for _ in range(150):
            net = drawn_table_net(rng)
            kind, prices = priced(net)
            if kind == "prices":
                ratios = [total / price for total, price in zip(sums_of(net, prices), prices)]
                self.assertEqual(share(net, prices), pair_of(max(ratios)))
                self.assertLess(value_of(share(net, prices)), 1)


class FarthestTest(unittest.TestCase):
    def test_by_hand(self):
        rest = ((3, 5), (-4, 5))
        self.assertEqual(farthest(NET, rest, (2, 3), (((0, 1), (0, 1)),)), (3, 10))
        self.assertEqual(farthest(NET, rest, (2, 3), (rest,)), (0, 1))
        self.assertEqual(farthest(NET, rest, (2, 3), (rest, ((0, 1), (0, 1)), rest)), (3, 10))
        self.assertEqual(farthest(NET, rest, (2, 3), (((0, 1), (0, 1)), ((3, 5), (-2, 1)))), (2, 5))
        self.assertEqual(farthest(NET, rest, (2, 3), (((3, 5), (2, 1)), ((0, 1), (0, 1)))), (14, 15))
        self.assertEqual(farthest(NET, ((1, 3), (0, 1)), (1, 1), (((-1, 2), (1, 4)),)), (5, 6))

    def test_the_bound_at_each_beat(self):
        rng = random.Random(365)
        seen = near = 0
        while seen < 80:
            net = drawn_table_net(rng, most=2)
            kind, prices = priced(net)
            if kind != "prices":
                continue
            seen += 1
            rest = some_rest(net)
            d = rng.choice((2, 3, 9))
            run = drawn_table_run(rng, net, d, 20)
            bound = value_of(farthest(net, rest, prices, run[0]))
            for beat, state in enumerate(table_states(net, run)):
                if beat % d == 0:
                    bound *= value_of(share(net, prices))
                far = value_of(farthest(net, rest, prices, (state,)))
                own = [abs(value_of(worth) - value_of(other)) / price for worth, other, price in zip(state, rest, prices)]
                self.assertEqual(far, max(own))
                self.assertLessEqual(far, bound)
                near += 0 < far > bound / 2
        self.assertGreater(near, 20)

    def test_states_of_great_numbers(self):
        far = Fraction(10 ** 399, 3)
        self.assertEqual(farthest(NET, ((0, 1), (0, 1)), (2, 3), ((pair_of(-far), (1, 1)),)), pair_of(far / 2))


if __name__ == "__main__":
    unittest.main()

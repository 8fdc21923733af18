"""[41]: by which beat all is near."""

import random
import unittest
from fractions import Fraction

from newsbehind.errors import Refused
from newsbehind.fastbeats import beats_for
from newsbehind.pricing import priced
from newsbehind.tablenets import table_net_of
from newsbehind.tablerests import farthest, share, some_rest
from newsbehind.tableruns import table_states
from tables import drawn_table_net, drawn_table_run, pair_of, value_of

NET = table_net_of([[0, (1, 2)], [-1, (1, 4)]], [1, 0])
HALF = table_net_of([[(1, 2)]], [3])


def slow_beats(net, prices, d, far, near):
    """The least t, or None if it is more than 1,000 * d."""
    for t in range(0, 1000 * d + 1, d):
        if value_of(far) * value_of(share(net, prices)) ** (t // d + 1) <= value_of(near):
            return t
    return None


class BeatsForTest(unittest.TestCase):
    def refused(self, *arguments):
        with self.assertRaises(Refused) as caught:
            beats_for(*arguments)
        self.assertEqual(caught.exception.at, arguments[2])

    def test_by_hand(self):
        self.assertEqual(beats_for(NET, (2, 3), 2, (10, 1), (1, 1)), 52)
        for d in (2, 3, 9):
            # 8 halved once is 4, twice 2, three times 1.
            self.assertEqual(beats_for(HALF, (1,), d, (8, 1), (4, 1)), 0)
            self.assertEqual(beats_for(HALF, (1,), d, (8, 1), (399, 100)), d)
            self.assertEqual(beats_for(HALF, (1,), d, (8, 1), (2, 1)), d)
            self.assertEqual(beats_for(HALF, (5,), d, (8, 1), (1, 1)), 2 * d)
            self.assertEqual(beats_for(HALF, (1,), d, (801, 100), (1, 1)), 3 * d)

    def test_near_at_least_as_great_as_far(self):
        for near in ((8, 1), (9, 1), (10 ** 399, 1)):
            self.assertEqual(beats_for(HALF, (1,), 9, (8, 1), near), 0)
            self.assertEqual(beats_for(NET, (2, 3), 2, (8, 1), near), 0)

    def test_a_share_of_0(self):
        net = table_net_of([[0]], [5])
        for far, near in (((10 ** 399, 1), (1, 10 ** 399)), ((1, 1), (1, 1)), ((1, 2), (1, 3))):
            self.assertEqual(beats_for(net, (1,), 2, far, near), 0)

    def test_both_sides_of_the_bound(self):
        # Halved 1,001 times is the last that is told, at t = 1,000 * d.
        for d in (2, 9):
            self.assertEqual(beats_for(HALF, (1,), d, (2 ** 1001, 1), (1, 1)), 1000 * d)
            self.refused(HALF, (1,), d, (2 ** 1001 + 1, 1), (1, 1))
            self.assertEqual(beats_for(HALF, (1,), d, (2 ** 1000 + 1, 1), (1, 1)), 1000 * d)
            self.assertEqual(beats_for(HALF, (1,), d, (2 ** 1000, 1), (1, 1)), 999 * d)
            self.refused(HALF, (1,), d, (1, 1), (1, 3 ** 700))
            slow = table_net_of([[(999, 1000)]], [0])
            self.refused(slow, (1,), d, (3, 1), (1, 1))
            self.assertEqual(beats_for(slow, (1,), d, (27, 10), (1, 1)), 992 * d)

    def test_great_numbers(self):
        prices = (10 ** 399 + 7, 10 ** 399 + 9)
        net = table_net_of([[(1, 997), (991, 1000)], [(989, 991), (1, 1000)]], [0, 0])
        self.assertLess(value_of(share(net, prices)), 1)
        told = beats_for(net, prices, 2, (2, 1), (1, 1))
        top, bottom = share(net, prices)
        self.assertEqual(told % 2, 0)
        self.assertLessEqual(2 * top ** (told // 2 + 1), bottom ** (told // 2 + 1))
        self.assertGreater(2 * top ** (told // 2), bottom ** (told // 2))
        self.refused(net, prices, 9, (10 ** 399, 1), (1, 10 ** 399))

    def test_as_told_one_by_one(self):
        rng = random.Random(411)
        seen = 0
        while seen < 80:
            net = drawn_table_net(rng, most=2)
            kind, prices = priced(net)
            if kind == "prices":
                seen += 1
                d = rng.randint(2, 9)
                far, near = pair_of(Fraction(rng.randint(1, 999), rng.randint(1, 9))), (1, rng.randint(1, 99))
                told = slow_beats(net, prices, d, far, near)
                if told is None:
                    self.refused(net, prices, d, far, near)
                else:
                    self.assertEqual(beats_for(net, prices, d, far, near), told)

    def test_from_then_on_all_is_near(self):
        rng = random.Random(412)
        seen = 0
        while seen < 40:
            net = drawn_table_net(rng, most=1)
            kind, prices = priced(net)
            if kind != "prices" or value_of(share(net, prices)) > Fraction(2, 3):
                continue
            seen += 1
            run = drawn_table_run(rng, net, 2, 30)
            rest = some_rest(net)
            far = farthest(net, rest, prices, run[0])
            if far[0] > 0:
                near = pair_of(value_of(far) / 8)
                beat = beats_for(net, prices, 2, far, near)
                self.assertLess(beat, 14)
                self.assertLessEqual(value_of(farthest(net, rest, prices, table_states(net, run)[beat:])), value_of(near))


if __name__ == "__main__":
    unittest.main()

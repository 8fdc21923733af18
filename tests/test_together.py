"""[55]: nets put together, and what comes of the whole by the tables of the parts."""

import random
import unittest

from newsbehind.ends import last_ends
from newsbehind.endtables import ends_table
from newsbehind.errors import InvalidNet
from newsbehind.nets import is_net, net_of
from newsbehind.together import joined_ends, put_together
from sampling import one_way, small_net

FIRST = net_of([3, 3], [("is", 1), ("from", 3, ("hear", 0))])
SECOND = net_of([2, 5], [("hear", 1), ("add", (("hear", 0), ("hear", 1)))])
HALF = net_of([3, 3], [("is", 0), ("part", 2, ("hear", 0))])


def parts_of(ends, houses):
    return tuple(ends[0][house] for house in houses), tuple(ends[1][house] for house in houses)


class PutTogetherTest(unittest.TestCase):
    def test_no_ties(self):
        told = put_together(FIRST, SECOND, ())
        self.assertEqual(told, net_of([3, 3, 2, 5], [
            ("is", 1), ("from", 3, ("hear", 0)), ("hear", 3), ("add", (("hear", 2), ("hear", 3)))]))
        self.assertEqual(put_together(SECOND, FIRST, ())[0], (2, 5, 3, 3))

    def test_ties(self):
        plain = put_together(FIRST, SECOND, ())
        for ties in (((0, 3),), ((2, 1),), ((0, 3), (2, 1)), ((2, 1), (0, 3)), ((0, 1),), ((3, 2), (1, 0)), ((3, 3),)):
            told = put_together(FIRST, SECOND, ties)
            self.assertIs(is_net(told), True)
            self.assertEqual(told[0], plain[0])
            for house in range(4):
                self.assertEqual(told[1][house], ("hear", dict(ties)[house]) if house in dict(ties) else plain[1][house])

    def test_how_many_houses(self):
        for one, other in ((10, 10), (1, 19), (19, 1)):
            told = put_together(net_of([1] * one, [("hear", 0)] * one), net_of([1] * other, [("hear", other - 1)] * other),
                                ())
            self.assertEqual(told[1], (("hear", 0),) * one + (("hear", 19),) * other)
        for one, other in ((10, 11), (20, 1), (1, 20), (20, 20)):
            with self.assertRaises(InvalidNet) as caught:
                put_together(net_of([1] * one, [("is", 0)] * one), net_of([1] * other, [("is", 0)] * other), ((0, one),))
            self.assertEqual(caught.exception.at, 0)

    def test_all_that_a_second_net_hears_is_counted_on(self):
        rng = random.Random(551)
        for _ in range(40):
            first, second = small_net(rng, houses=2), small_net(rng, houses=3)
            told = put_together(first, second, ())
            self.assertEqual(told[1][:2], first[1])
            self.assertEqual(repr(told[1][2:]).count("hear"), repr(second[1]).count("hear"))
            one_first, one_second = one_way(rng, first), one_way(rng, second)
            lows, highs = last_ends(put_together(one_first, one_second, ()))
            self.assertEqual(((lows[:2], highs[:2]), (lows[2:], highs[2:])), (last_ends(one_first), last_ends(one_second)))


class JoinedEndsTest(unittest.TestCase):
    def test_by_hand(self):
        table = ends_table(HALF, (0,), (1,))
        self.assertEqual(joined_ends(table, table, (0,), (0,)), (((0,), (0,)), ((0,), (0,))))
        plain = ends_table(net_of([3, 3], [("is", 0), ("hear", 0)]), (0,), (1,))
        self.assertEqual(joined_ends(plain, plain, (0,), (0,)), (((0,), (3,)), ((0,), (3,))))
        falls = ends_table(net_of([3, 3], [("is", 0), ("from", 3, ("most", (("is", 1), ("hear", 0))))]), (0,), (1,))
        self.assertEqual(joined_ends(falls, plain, (0,), (0,)), (((1,), (2,)), ((1,), (2,))))
        still = ends_table(net_of([3, 3], [("is", 0), ("is", 2)]), (0,), (1,))
        self.assertEqual(joined_ends(still, plain, (0,), (0,)), (((2,), (2,)), ((2,), (2,))))

    def test_cut_to_tops_of_inputs(self):
        # An output with a top of 9 is heard by an input with a top of 2, and an input with a top of 9 hears one of 2.
        first = net_of([2, 9], [("is", 0), ("add", (("hear", 0), ("is", 5)))])
        second = net_of([9, 2], [("is", 0), ("from", 9, ("hear", 0))])
        tables = ends_table(first, (0,), (1,)), ends_table(second, (0,), (1,))
        self.assertEqual(joined_ends(*tables, (0,), (0,)), (((7,), (7,)), ((2,), (2,))))
        self.assertEqual(last_ends(put_together(first, second, ((0, 3), (2, 1)))), ((2, 7, 7, 2), (2, 7, 7, 2)))
        wide = ends_table(net_of([9, 9], [("is", 0), ("from", 9, ("hear", 0))]), (0,), (1,))
        self.assertEqual(joined_ends(tables[0], wide, (0,), (0,)), (((7,), (7,)), ((2,), (2,))))
        low = ends_table(net_of([1, 9], [("is", 0), ("times", 9, ("from", 1, ("hear", 0)))]), (0,), (1,))
        self.assertEqual(joined_ends(low, wide, (0,), (0,)), (((0,), (9,)), ((0,), (9,))))

    def drawn(self, rng, houses, inputs):
        net = one_way(rng, small_net(rng, houses=houses, top=rng.choice((1, 2, 3))))
        own = tuple(sorted(rng.sample(range(houses), inputs)))
        outputs = tuple(sorted(rng.sample(range(houses), rng.randint(1, houses))))
        return net, own, outputs

    def test_they_are_the_last_ends_of_the_whole(self):
        rng = random.Random(552)
        seen = [0, 0]
        for _ in range(250):
            first, inputs, outputs = self.drawn(rng, rng.choice((1, 2, 3)), 1)
            second, other_inputs, other_outputs = self.drawn(rng, rng.choice((2, 3)), rng.choice((1, 2)))
            heard = tuple(rng.randrange(len(other_outputs)) for _ in inputs)
            brought = tuple(rng.randrange(len(outputs)) for _ in other_inputs)
            many = len(first[0])
            ties = [(house, many + other_outputs[at]) for house, at in zip(inputs, heard)]
            ties += [(many + house, outputs[at]) for house, at in zip(other_inputs, brought)]
            ends = last_ends(put_together(first, second, tuple(ties)))
            told = joined_ends(ends_table(first, inputs, outputs), ends_table(second, other_inputs, other_outputs), heard,
                               brought)
            self.assertEqual(told, (parts_of(ends, outputs), parts_of(ends, [many + house for house in other_outputs])))
            seen[told[0][0] == told[0][1] and told[1][0] == told[1][1]] += 1
        self.assertGreater(min(seen), 20)

    def test_great_tables(self):
        net = net_of([26] + [1000] * 9, [("is", 0)] + [("add", (("hear", house), ("is", 1))) for house in range(9)])
        table = ends_table(net, (0,), (9,))
        self.assertEqual(len(table), 378)
        self.assertEqual(joined_ends(table, table, (0,), (0,)), (((35,), (35,)), ((35,), (35,))))
        self.assertEqual(last_ends(put_together(net, net, ((0, 19), (10, 9))))[0][9], 35)


if __name__ == "__main__":
    unittest.main()

"""[52] and [53]: ends given from outside, and an outside that gives them."""

import itertools
import random
import unittest

from newsbehind.ends import first_ends, last_ends
from newsbehind.errors import InvalidQuestion
from newsbehind.nets import net_of, wanted, with_rule
from newsbehind.openparts import ends_given, given_net
from newsbehind.ways import are_one_way, end_heard
from sampling import all_states, drawn_ends, one_way, small_net
from test_traps import within

NET = net_of([3, 3, 3], [("is", 0), ("least", (("hear", 0), ("from", 3, ("hear", 2)))), ("hear", 1)])
BOTH = ("row", (0, 2, 1), ("hear", 0))


def slow_ends_given(net, inputs, ends):
    lows, highs = [0] * len(net[0]), list(net[0])
    for house, low, high in zip(inputs, *ends):
        lows[house], highs[house] = low, high
    while True:
        later_lows, later_highs = list(lows), list(highs)
        for house in range(len(lows)):
            if house not in inputs:
                low_row, high_row = end_heard(net, house, tuple(lows), tuple(highs))
                later_lows[house] = wanted(net, house, low_row)
                later_highs[house] = wanted(net, house, high_row)
        if (later_lows, later_highs) == (lows, highs):
            return tuple(lows), tuple(highs)
        lows, highs = later_lows, later_highs


def drawn_inputs(rng, net):
    inputs = tuple(sorted(rng.sample(range(len(net[0])), rng.randint(0, len(net[0])))))
    lows, highs = drawn_ends(rng, net)
    if rng.random() < 0.3:
        highs = lows
    return inputs, (tuple(lows[house] for house in inputs), tuple(highs[house] for house in inputs))


class EndsGivenTest(unittest.TestCase):
    def refused(self, net, inputs, ends):
        with self.assertRaises(InvalidQuestion) as caught:
            ends_given(net, inputs, ends)
        self.assertEqual(caught.exception.at, 1)

    def test_by_hand(self):
        self.assertEqual(ends_given(NET, (0,), ((1,), (3,))), ((1, 0, 0), (3, 3, 3)))
        self.assertEqual(ends_given(NET, (0,), ((2,), (2,))), ((2, 1, 1), (2, 2, 2)))
        self.assertEqual(ends_given(NET, (0, 2), ((2, 1), (3, 2))), ((2, 1, 1), (3, 2, 2)))

    def test_no_inputs(self):
        self.assertEqual(ends_given(NET, (), ((), ())), last_ends(NET))
        rng = random.Random(521)
        for _ in range(60):
            net = one_way(rng, small_net(rng))
            self.assertEqual(ends_given(net, (), ((), ())), last_ends(net))

    def test_all_inputs(self):
        rng = random.Random(522)
        for _ in range(30):
            net = small_net(rng)
            ends = drawn_ends(rng, net)
            self.assertEqual(ends_given(net, (0, 1, 2), ends), ends)
        self.assertEqual(ends_given(net, (0, 1, 2), first_ends(one_way(rng, net))), ((0, 0, 0), net[0]))

    def test_inputs_that_hear(self):
        # What the rules of inputs are does not matter, nor that the ends given are wider than these want.
        for rule in ("is", 3), ("hear", 2), BOTH, ("from", 1, ("hear", 0)):
            self.assertEqual(ends_given(with_rule(NET, 0, rule), (0,), ((1,), (3,))), ((1, 0, 0), (3, 3, 3)))
        net = net_of([5, 5], [("is", 2), ("hear", 0)])
        self.assertEqual(ends_given(net, (0,), ((0,), (5,))), ((0, 0), (5, 5)))
        self.assertEqual(ends_given(net, (1,), ((0,), (5,))), ((2, 0), (2, 5)))

    def test_branches_that_go_both_ways(self):
        net = net_of([2, 2, 2], [BOTH, ("hear", 0), ("hear", 1)])
        self.refused(net, (), ((), ()))
        self.refused(net, (1,), ((0,), (1,)))
        self.refused(net, (1, 2), ((0, 0), (1, 1)))
        self.assertEqual(ends_given(net, (0,), ((0,), (1,))), ((0, 0, 0), (1, 1, 1)))
        self.assertEqual(ends_given(net, (0, 2), ((0, 1), (1, 2))), ((0, 0, 1), (1, 1, 2)))
        self.refused(with_rule(net, 2, BOTH), (0,), ((0,), (1,)))
        self.assertEqual(ends_given(with_rule(net, 2, BOTH), (0, 2), ((0, 0), (1, 2))), ((0, 0, 0), (1, 1, 2)))

    def test_round_by_round(self):
        rng = random.Random(523)
        for _ in range(300):
            net = one_way(rng, small_net(rng, houses=rng.choice((1, 2, 3, 4))))
            inputs, ends = drawn_inputs(rng, net)
            self.assertEqual(ends_given(net, inputs, ends), slow_ends_given(net, inputs, ends))

    def test_narrower_ends_never_make_any_wider(self):
        rng = random.Random(524)
        for _ in range(40):
            net = one_way(rng, small_net(rng))
            every = [ends for ends in itertools.product(all_states(net), repeat=2) if ends[0][0] <= ends[1][0]]
            every = [((lows[0],), (highs[0],)) for lows, highs in every[::7]]
            for one, other in itertools.product(every[:12], repeat=2):
                if within(one, other):
                    self.assertTrue(within(ends_given(net, (0,), one), ends_given(net, (0,), other)))

    def test_great_nets(self):
        net = net_of([1000] * 20, [("add", (("hear", 19), ("is", 1)))] + [("hear", house) for house in range(19)])
        self.assertEqual(ends_given(net, (7,), ((3,), (3,)))[0][8:], (3,) * 12)
        self.assertEqual(ends_given(net, (), ((), ())), ((1000,) * 20,) * 2)
        self.assertEqual(ends_given(net, (0, 7), ((5, 0), (9, 1000))), ((5,) * 7 + (0,) * 13, (9,) * 7 + (1000,) * 13))


class GivenNetTest(unittest.TestCase):
    def test_by_hand(self):
        self.assertEqual(given_net(NET, (0,), ((1,), (3,)))[1], (("bar", 3, 3, 1, ("hear", 0)),) + NET[1][1:])
        self.assertEqual(given_net(NET, (0,), ((2,), (2,)))[1], (("is", 2),) + NET[1][1:])
        self.assertEqual(given_net(NET, (), ((), ())), NET)
        told = given_net(NET, (0, 2), ((0, 3), (0, 3)))
        self.assertEqual(told, net_of([3] * 3, [("is", 0), NET[1][1], ("is", 3)]))
        told = given_net(NET, (1, 2), ((0, 1), (3, 2)))
        self.assertEqual(told[1][1:], (("bar", 3, 3, 0, ("hear", 1)), ("bar", 2, 2, 1, ("hear", 2))))

    def test_no_branch_is_refused(self):
        net = net_of([2, 2], [BOTH, BOTH])
        self.assertEqual(given_net(net, (1,), ((0,), (2,))), net_of([2, 2], [BOTH, ("bar", 2, 2, 0, ("hear", 1))]))

    def test_its_last_ends_are_those_told(self):
        rng = random.Random(531)
        unlike = 0
        for _ in range(300):
            net = one_way(rng, small_net(rng, houses=rng.choice((1, 2, 3, 4))))
            inputs, ends = drawn_inputs(rng, net)
            told = given_net(net, inputs, ends)
            self.assertIs(are_one_way(told), True)
            self.assertEqual(last_ends(told), ends_given(net, inputs, ends))
            unlike += ends[0] != ends[1]
            for house in range(len(net[0])):
                if house not in inputs:
                    self.assertEqual(told[1][house], net[1][house])
        self.assertGreater(unlike, 100)

    def test_greatest_ends(self):
        net = net_of([1000] * 20, [("hear", (house + 1) % 20) for house in range(20)])
        inputs = tuple(range(0, 20, 2))
        ends = ((0,) * 10, (1000,) * 10)
        self.assertEqual(last_ends(given_net(net, inputs, ends)), ends_given(net, inputs, ends))


if __name__ == "__main__":
    unittest.main()

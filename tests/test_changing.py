"""[8], [9]: nets changed and renamed, and who hears whom."""

import random
import unittest

from newsbehind.nets import (
    fixed, hearers, is_net, is_rest, knots, net_of, next_state, reached, renamed_net, renamed_state, with_rule,
)
from newsbehind.rules import branches
from sampling import drawn_net, drawn_rule, drawn_state

ZERO = ("is", 0)


def hearing(*rows):
    """A net in which each house hears just these houses."""
    return net_of([1] * len(rows), [("most", (ZERO,) + tuple(("hear", other) for other in row)) for row in rows])


class ChangingTest(unittest.TestCase):
    def test_another_rule(self):
        net = net_of([5, 6, 7], [ZERO, ("hear", 0), ("hear", 1)])
        self.assertEqual(with_rule(net, 0, ("hear", 2)), ((5, 6, 7), (("hear", 2), ("hear", 0), ("hear", 1))))
        self.assertEqual(with_rule(net, 2, ZERO), ((5, 6, 7), (ZERO, ("hear", 0), ZERO)))
        self.assertEqual(with_rule(net, 1, ("hear", 0)), net)
        self.assertEqual(net, ((5, 6, 7), (ZERO, ("hear", 0), ("hear", 1))))

    def test_fixed(self):
        net = net_of([5, 6], [("hear", 1), ("hear", 0)])
        self.assertEqual(fixed(net, 1, 4), ((5, 6), (("hear", 1), ("is", 4))))
        self.assertEqual(fixed(net, 0, 5), ((5, 6), (("is", 5), ("hear", 0))))

    def test_renamed(self):
        net = net_of([5, 6, 7], [("row", (1, 2), ("hear", 1)), ("middle", ("hear", 2), ("is", 3), ("hear", 0)),
                                 ("add", (("clip", 1, 2, ("hear", 2)), ("bar", 4, 5, 6, ("part", 7, ("hear", 0)))))])
        self.assertEqual(renamed_net(net, (1, 2, 0)), (
            (7, 5, 6),
            (("add", (("clip", 1, 2, ("hear", 0)), ("bar", 4, 5, 6, ("part", 7, ("hear", 1))))),
             ("row", (1, 2), ("hear", 2)),
             ("middle", ("hear", 0), ("is", 3), ("hear", 1))),
        ))
        self.assertEqual(renamed_state((5, 6, 7), (1, 2, 0)), (7, 5, 6))

    def test_numbers_are_no_names(self):
        net = net_of([1, 1], [("is", 1), ("times", 1, ("from", 0, ("hear", 0)))])
        self.assertEqual(renamed_net(net, (1, 0)), ((1, 1), (("times", 1, ("from", 0, ("hear", 1))), ("is", 1))))

    def test_two_orders_one_after_the_other(self):
        rng = random.Random(8)
        for _ in range(60):
            net = drawn_net(rng, houses=rng.choice((1, 2, 4, 20)))
            houses = len(net[0])
            first, second = rng.sample(range(houses), houses), rng.sample(range(houses), houses)
            both = tuple(second[name] for name in first)
            state = drawn_state(rng, net)
            self.assertEqual(renamed_net(renamed_net(net, tuple(first)), tuple(second)), renamed_net(net, both))
            self.assertEqual(renamed_state(renamed_state(state, tuple(first)), tuple(second)), renamed_state(state, both))
            self.assertEqual(renamed_net(net, tuple(range(houses))), net)
            self.assertIs(is_net(renamed_net(net, both)), True)

    def test_states_go_along_with_names(self):
        rng = random.Random(9)
        for _ in range(60):
            net = drawn_net(rng, houses=4, most_top=3)
            names = tuple(rng.sample(range(4), 4))
            state = drawn_state(rng, net)
            named = renamed_net(net, names)
            self.assertEqual(renamed_state(next_state(net, state), names), next_state(named, renamed_state(state, names)))
            self.assertEqual(is_rest(net, state), is_rest(named, renamed_state(state, names)))


class HearingTest(unittest.TestCase):
    def test_hearers(self):
        net = hearing((2,), (2, 0, 2), (), (3,))
        self.assertEqual([hearers(net, house) for house in range(4)], [(1,), (), (0, 1), (3,)])

    def test_reached(self):
        net = hearing((), (0,), (1,), (2, 3), (4, 0))
        self.assertEqual([reached(net, house) for house in range(5)], [(1, 2, 3, 4), (2, 3), (3,), (3,), (4,)])

    def test_a_house_that_hears_itself(self):
        self.assertEqual(hearers(hearing((0,)), 0), (0,))
        self.assertEqual(reached(hearing((0,)), 0), (0,))
        self.assertEqual(knots(hearing((0,))), ((0,),))

    def test_a_house_alone(self):
        self.assertEqual(hearers(hearing(()), 0), ())
        self.assertEqual(reached(hearing(()), 0), ())
        self.assertEqual(knots(hearing(())), ((0,),))
        self.assertEqual(knots(hearing((), (), ())), ((0,), (1,), (2,)))

    def test_a_ring_is_reached_by_itself(self):
        net = hearing((1,), (2,), (0,), (0,))
        self.assertEqual(reached(net, 0), (0, 1, 2, 3))
        self.assertEqual(reached(net, 3), ())

    def test_knots_of_rings(self):
        self.assertEqual(knots(hearing((4,), (3,), (), (1, 0), (0,))), ((0, 4), (1, 3), (2,)))
        self.assertEqual(knots(hearing((1,), (2,), (3,), (0,))), ((0, 1, 2, 3),))
        self.assertEqual(knots(hearing((1,), (2,), (3,), (1,))), ((0,), (1, 2, 3)))
        self.assertEqual(knots(hearing((1,), (0, 2), (3,), (2, 0), (4,))), ((0, 1, 2, 3), (4,)))
        ring = hearing(*[((house + 1) % 20,) for house in range(20)])
        self.assertEqual(knots(ring), (tuple(range(20)),))

    def test_as_reckoned_another_way(self):
        rng = random.Random(10)
        for _ in range(80):
            houses = rng.choice((1, 2, 5, 9, 20))
            net = net_of([1] * houses, [drawn_rule(rng, houses, rng.choice((1, 2, 3))) for _ in range(houses)])
            near = [[other in branches(rule) for rule in net[1]] for other in range(houses)]
            far = [row[:] for row in near]
            for by in range(houses):
                for one in range(houses):
                    for other in range(houses):
                        far[one][other] = far[one][other] or (far[one][by] and far[by][other])
            for house in range(houses):
                self.assertEqual(hearers(net, house), tuple(k for k in range(houses) if near[house][k]))
                self.assertEqual(reached(net, house), tuple(k for k in range(houses) if far[house][k]))
            lots = {tuple(k for k in range(houses) if k == house or far[house][k] and far[k][house])
                    for house in range(houses)}
            self.assertEqual(knots(net), tuple(sorted(lots)))

    def test_what_hangs_on_whom(self):
        net = hearing((1,), (), (0,), (3,))
        for house in range(4):
            changed = next_state(fixed(net, house, 1), next_state(fixed(net, house, 1), (0, 0, 0, 0)))
            same = next_state(fixed(net, house, 0), next_state(fixed(net, house, 0), (0, 0, 0, 0)))
            unlike = tuple(k for k in range(4) if changed[k] != same[k])
            self.assertLessEqual(set(unlike), set(reached(net, house)) | {house})


if __name__ == "__main__":
    unittest.main()

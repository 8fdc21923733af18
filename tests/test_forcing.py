"""[67]: who can bring it about that a net rests always."""

import random
import unittest

from newsbehind.errors import Refused
from newsbehind.forcing import answer, forcing
from newsbehind.nets import fixed, net_of
from newsbehind.resting import rests_always
from newsbehind.settings import set_net, settings
from sampling import one_way, small_net
from test_settings import BOTH, NET

CALM = fixed(NET, 3, 2)
# House 2 toggles if both inputs are above 0.
GATE = net_of([2, 2, 3], [("is", 0), ("is", 0), ("bar", 1, 3, 0, ("least", (("hear", 0), ("hear", 1), ("hear", 2))))])


def drawn_lots(rng, net):
    houses = list(range(len(net[0])))
    rng.shuffle(houses)
    at = rng.randint(0, len(houses))
    end = rng.randint(at, len(houses))
    return tuple(sorted(houses[:at])), tuple(sorted(houses[at:end]))


def slow_answer(net, mine, others, setting):
    for other in settings(net, others):
        if not rests_always(set_net(set_net(net, mine, setting), others, other)):
            return other
    return None


class ForcingTest(unittest.TestCase):
    def refused(self, at, net, mine, others, setting=()):
        for ask in (lambda: forcing(net, mine, others), lambda: answer(net, mine, others, setting)):
            with self.assertRaises(Refused) as caught:
                ask()
            self.assertEqual(caught.exception.at, at)

    def test_by_hand(self):
        self.assertEqual(forcing(CALM, (0,), (1,)), (0,))
        self.assertIs(answer(CALM, (0,), (1,), (1,)), None)
        self.assertEqual(forcing(GATE, (0,), (1,)), (0,))
        self.assertIs(answer(GATE, (0,), (1,), (0,)), None)
        self.assertEqual(answer(GATE, (0,), (1,), (1,)), (1,))
        self.assertEqual(answer(GATE, (0,), (1,), (2,)), (1,))
        self.assertEqual(answer(GATE, (0, 2), (1,), (2, 3)), None)
        flipped = net_of(GATE[0], [("is", 0), ("is", 0), ("bar", 1, 3, 0,
                                                          ("least", (("from", 2, ("hear", 0)), ("hear", 1), ("hear", 2))))])
        self.assertEqual(forcing(flipped, (0,), (1,)), (2,))
        self.assertEqual(answer(flipped, (0,), (1,), (1,)), (1,))

    def test_no_mine_and_no_others(self):
        self.assertEqual(forcing(CALM, (), ()), ())
        self.assertIs(answer(CALM, (), (), ()), None)
        self.assertIs(forcing(NET, (), ()), None)
        self.assertEqual(answer(NET, (), (), ()), ())
        # Without mine the net must rest with each setting of the others; without others with one of mine.
        self.assertIs(forcing(GATE, (), (0, 1)), None)
        self.assertEqual(answer(GATE, (), (0, 1), ()), (1, 1))
        self.assertEqual(forcing(GATE, (0, 1), ()), (0, 0))
        self.assertEqual(answer(GATE, (0, 1), (), (2, 1)), ())
        self.assertEqual(forcing(NET, (3,), (0, 1)), (0,))
        self.assertIs(forcing(NET, (0, 1), (2,)), None)

    def test_all_settings(self):
        rng = random.Random(671)
        for _ in range(150):
            net = one_way(rng, small_net(rng, houses=rng.choice((1, 2, 3, 4)), top=2))
            self.holds(net, *drawn_lots(rng, net))

    def test_inputs_that_let_a_house_turn_round(self):
        rng = random.Random(672)
        found = {}
        for _ in range(200):
            parts = [("from", 3, ("hear", 4))]
            for house in range(4):
                part = rng.choice((("hear", house), ("from", 3, ("hear", house)), ("is", 3)))
                parts.append((rng.choice(("most", "most", "least")), (part, ("hear", rng.randrange(4)))))
            net = net_of([1, 2, 1, 2, 3], [("is", 0)] * 4 + [("least", tuple(parts))])
            first = self.holds(net, *rng.choice((((0, 1), (2, 3)), ((1, 2), (0, 3)), ((0, 1, 3), (2,)), ((2,), (0, 1, 3)))))
            found[first] = found.get(first, 0) + 1
        self.assertGreater(found[None], 10)
        self.assertGreater(len(found), 5)

    def holds(self, net, mine, others):
        answers = {setting: slow_answer(net, mine, others, setting) for setting in settings(net, mine)}
        first = next((setting for setting, told in answers.items() if told is None), None)
        self.assertEqual(forcing(net, mine, others), first)
        for setting, told in answers.items():
            self.assertEqual(answer(net, mine, others, setting), told)
        return first

    def test_the_first_of_several(self):
        net = net_of([9, 9, 9], [("is", 0), ("is", 0), ("bar", 4, 9, 0,
                                                        ("least", (("from", 9, ("hear", 0)), ("hear", 1), ("hear", 2))))])
        self.assertEqual(forcing(net, (0,), (1,)), (6,))
        self.assertEqual(answer(net, (0,), (1,), (5,)), (4,))
        self.assertEqual(forcing(net, (1,), (0,)), (0,))
        self.assertEqual(forcing(net, (0, 1), ()), (0, 0))

    def test_just_2000_and_more(self):
        net = net_of([19, 9, 9, 1], [("is", 0)] * 3 + [("hear", 0)])
        for mine, others in (((0,), (1, 2)), ((0, 1, 2), ()), ((), (0, 1, 2)), ((1,), (0, 2))):
            self.assertEqual(forcing(net, mine, others), (0,) * len(mine))
            self.assertIs(answer(net, mine, others, (3,) * len(mine)), None)
        for mine, others in (((0,), (1, 2, 3)), ((3,), (0, 1, 2)), ((0, 1, 2, 3), ())):
            self.refused(4000, net, mine, others, (0,) * len(mine))
        self.refused(2002, net_of([1000, 1], [("is", 0)] * 2), (1,), (0,), (0,))

    def test_a_branch_that_goes_both_ways(self):
        for house in range(3):
            net = net_of([1000, 1000, 1000], [("is", 0)] * house + [BOTH] * (3 - house))
            for mine, others in (((), ()), ((house,), ()), ((0,), (1, 2))):
                self.refused(house, net, mine, others, (0,) * len(mine))


if __name__ == "__main__":
    unittest.main()

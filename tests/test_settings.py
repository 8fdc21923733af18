"""[65] and [66]: settings of inputs, and with which of them a net rests."""

import itertools
import random
import unittest

from newsbehind.ends import last_ends
from newsbehind.errors import Refused
from newsbehind.nets import net_of
from newsbehind.resting import rests_always
from newsbehind.settings import first_toggling, resting_settings, set_net, settings
from sampling import one_way, small_net

NET = net_of([1, 1, 3, 3], [
    ("is", 0), ("is", 0), ("bar", 1, 0, 3, ("least", (("hear", 0), ("hear", 1)))), ("from", 3, ("hear", 3))])
# House 0 chooses: from 2 on, house 1 toggles.
TURNS = net_of([4, 3], [("hear", 1), ("bar", 2, 1, 0, ("least", (("hear", 0), ("times", 2, ("hear", 1)))))])
BOTH = ("row", (0, 2, 1), ("hear", 0))
ALL = (settings, resting_settings, first_toggling)


def some_inputs(rng, net):
    return tuple(sorted(rng.sample(range(len(net[0])), rng.randint(0, len(net[0])))))


class Refusing(unittest.TestCase):
    def refused(self, at, ask, *arguments):
        with self.assertRaises(Refused) as caught:
            ask(*arguments)
        self.assertEqual(caught.exception.at, at)


class SettingsTest(Refusing):
    def test_by_hand(self):
        self.assertEqual(settings(NET, (0, 1)), ((0, 0), (0, 1), (1, 0), (1, 1)))
        self.assertEqual(settings(NET, ()), ((),))
        self.assertEqual(settings(NET, (2,)), ((0,), (1,), (2,), (3,)))
        self.assertEqual(settings(NET, (0, 1, 2, 3)), tuple(itertools.product(range(2), range(2), range(4), range(4))))

    def test_ascending(self):
        rng = random.Random(651)
        for _ in range(30):
            net = one_way(rng, small_net(rng))
            inputs = some_inputs(rng, net)
            told = settings(net, inputs)
            self.assertEqual(told, tuple(itertools.product(*[range(net[0][house] + 1) for house in inputs])))

    def test_just_2000_and_more(self):
        for tops, inputs in (((19, 9, 9), (0, 1, 2)), ((999, 1, 1, 0), (0, 1)), ((999, 1, 1, 0), (0, 2, 3)),
                             ((1, 3, 4, 4, 9), (0, 1, 2, 3, 4))):
            net = net_of(tops, [("is", 0)] * len(tops))
            self.assertEqual(len(settings(net, inputs)), 2000)
            self.assertEqual(resting_settings(net, inputs), settings(net, inputs))
            self.assertIs(first_toggling(net, inputs), None)
        net = net_of([999, 1, 1, 0], [("is", 0)] * 4)
        for ask in ALL:
            self.refused(4000, ask, net, (0, 1, 2))
            self.refused(2002, ask, net_of([1000, 1], [("is", 0)] * 2), (0, 1))
            self.refused(2001, ask, net_of([2, 22, 28], [("is", 0)] * 3), (0, 1, 2))
            self.refused(2058, ask, net_of([20, 13, 6], [("is", 0)] * 3), (0, 1, 2))
            self.refused(1001 ** 20, ask, net_of([1000] * 20, [("is", 0)] * 20), tuple(range(20)))

    def test_a_branch_that_goes_both_ways(self):
        for house in range(3):
            net = net_of([1000, 1000, 1000], [("is", 0)] * house + [BOTH] * (3 - house))
            for ask in ALL:
                # Also if it is an input that has it, and beside far too many settings.
                for inputs in ((), (house,), (0, 1, 2)):
                    self.refused(house, ask, net, inputs)
            self.refused(house, set_net, net, (house,), (1,))
            self.refused(house, set_net, net, (), ())


class SetNetTest(unittest.TestCase):
    def test_by_hand(self):
        self.assertEqual(set_net(NET, (), ()), NET)
        self.assertEqual(set_net(NET, (1,), (1,)), net_of(NET[0], (NET[1][0], ("is", 1)) + NET[1][2:]))
        self.assertEqual(set_net(NET, (0, 3), (1, 2)), net_of(NET[0], (("is", 1),) + NET[1][1:3] + (("is", 2),)))
        self.assertEqual(set_net(NET, (0, 1, 2, 3), (0, 1, 2, 3))[1], (("is", 0), ("is", 1), ("is", 2), ("is", 3)))


class RestingSettingsTest(unittest.TestCase):
    def test_by_hand(self):
        self.assertEqual(resting_settings(NET, (0, 1)), ())
        self.assertEqual(first_toggling(NET, (0, 1)), (0, 0))
        self.assertEqual((first_toggling(NET, ()), resting_settings(NET, ())), ((), ()))
        self.assertEqual((first_toggling(NET, (3,)), resting_settings(NET, (3,))), (None, ((0,), (1,), (2,), (3,))))
        self.assertEqual(resting_settings(NET, (0, 1, 2, 3)), settings(NET, (0, 1, 2, 3)))
        self.assertEqual(resting_settings(TURNS, (0,)), ((0,), (1,)))
        self.assertEqual(first_toggling(TURNS, (0,)), (2,))
        self.assertEqual(resting_settings(TURNS, (1,)), ((0,), (1,), (2,), (3,)))

    def test_a_net_that_rests_always_may_toggle_with_a_setting(self):
        net = net_of([3, 3], [("is", 0), ("bar", 2, 3, 0, ("least", (("hear", 0), ("hear", 1))))])
        self.assertIs(rests_always(net), True)
        self.assertEqual((resting_settings(net, ()), first_toggling(net, ())), (((),), None))
        self.assertEqual((resting_settings(net, (0,)), first_toggling(net, (0,))), (((0,), (1,)), (2,)))

    def test_by_set_net(self):
        rng = random.Random(661)
        seen = [0, 0]
        for _ in range(250):
            net = one_way(rng, small_net(rng, houses=rng.choice((1, 2, 3, 4)), top=2))
            inputs = some_inputs(rng, net)
            resting = [one for one in settings(net, inputs) if rests_always(set_net(net, inputs, one))]
            toggling = [one for one in settings(net, inputs) if one not in resting]
            self.assertEqual(resting_settings(net, inputs), tuple(resting))
            self.assertEqual(first_toggling(net, inputs), toggling[0] if toggling else None)
            if inputs and len(inputs) < len(net[0]):
                seen[0] += bool(toggling and resting)
                seen[1] += not toggling
        self.assertGreater(min(seen), 8)

    def test_inputs_with_many_worths(self):
        rng = random.Random(662)
        for _ in range(25):
            low = rng.randrange(1, 40)
            net = net_of([40, 9, 9], [
                ("hear", 1), ("bar", low, 3, 9, ("least", (("hear", 0), ("times", 12, ("hear", 2))))),
                ("from", 9, ("hear", 1))])
            resting = tuple((worth,) for worth in range(41) if rests_always(set_net(net, (0,), (worth,))))
            self.assertEqual(resting_settings(net, (0,)), resting)
            self.assertEqual(first_toggling(net, (0,)), next((
                (worth,) for worth in range(41) if (worth,) not in resting), None))

    def test_no_inputs(self):
        rng = random.Random(663)
        for _ in range(40):
            net = one_way(rng, small_net(rng))
            lows, highs = last_ends(net)
            self.assertEqual(resting_settings(net, ()), ((),) if lows == highs else ())
            self.assertEqual(first_toggling(net, ()), None if lows == highs else ())


if __name__ == "__main__":
    unittest.main()

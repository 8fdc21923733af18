"""[58]: stopped runs as plain ones."""

import random
import unittest

from newsbehind.beats import shown
from newsbehind.lateness import is_run
from newsbehind.nets import net_of
from newsbehind.plainruns import plain_run
from newsbehind.stops import is_stopped_run, stopped_shown
from sampling import drawn_run, drawn_stopped_run, small_net
from test_stops import NET, PAST, RUN, SELF, beats_of


class PlainRunTest(unittest.TestCase):
    def test_by_hand(self):
        self.assertEqual(plain_run(NET, 2, 2, RUN), (((3, 0), (2, 2), (1, 2)), (((2,), (2,)), ((2,), (1,)))))
        # The house moves at beats 1 and 4, and shows at 2 and 3 what it heard at 1, told one and two beats older.
        run = (((4,), (7,)), beats_of((False, 2), (True, 2), (False, 1), (False, 1), (True, 1), (False, 2)))
        self.assertIs(is_stopped_run(SELF, 2, 3, run), True)
        self.assertEqual(stopped_shown(SELF, 2, run), ((7,), (7,), (7,), (7,), (7,), (7,)))
        self.assertEqual(plain_run(SELF, 2, 3, run), (((4,), (7,), (7,), (7,)), (((3,),), ((4,),), ((1,),), ((2,),))))

    def test_e_of_1(self):
        rng = random.Random(581)
        for d in 2, 3, 9:
            net = small_net(rng)
            past, latenesses = drawn_run(rng, net, d, 9)
            run = (past, tuple(((0, 1, 2), lateness) for lateness in latenesses))
            self.assertEqual(plain_run(net, d, 1, run), (past, latenesses))
            self.assertEqual(plain_run(net, d, 1, (past, ())), (past, ()))

    def test_just_the_beats_that_are_wanted(self):
        for e in 1, 2, 3, 8:
            run = (((4,), (7,)), beats_of(*[(False, 1)] * (e - 1)))
            self.assertIs(is_stopped_run(SELF, 2, e, run), True)
            self.assertEqual(plain_run(SELF, 2, e, run), (((4,),) + ((7,),) * e, ()))
        run = (PAST, RUN[1][:1])
        self.assertEqual(plain_run(NET, 2, 2, run), (((3, 0), (2, 2), (1, 2)), ()))

    def test_a_house_without_branches(self):
        net = net_of([5], [("is", 3)])
        run = (((1,), (2,)), (((), ((),)), ((0,), ((),)), ((), ((),))))
        self.assertEqual(stopped_shown(net, 2, run), ((2,), (3,), (3,)))
        self.assertEqual(plain_run(net, 2, 2, run), (((1,), (2,), (2,)), (((),), ((),))))

    def test_it_is_a_run_and_shows_the_same(self):
        rng = random.Random(582)
        for _ in range(200):
            net = small_net(rng, houses=rng.choice((1, 2, 3)))
            d, e = rng.choice(((2, 1), (2, 2), (2, 8), (3, 4), (5, 5), (8, 2), (9, 1)))
            run = drawn_stopped_run(rng, net, d, e, e - 1 + rng.choice((0, 1, 2, 20)), often=rng.choice((0.1, 0.4, 0.8)))
            told = plain_run(net, d, e, run)
            self.assertEqual(len(told[1]), len(run[1]) - e + 1)
            self.assertIs(is_run(net, d + e - 1, told), True)
            self.assertEqual(shown(net, d + e - 1, told), stopped_shown(net, d, run)[e - 1:])

    def test_each_number(self):
        rng = random.Random(583)
        for _ in range(40):
            net = small_net(rng)
            d, e = rng.choice(((2, 3), (4, 4)))
            past, beats = run = drawn_stopped_run(rng, net, d, e, 15, often=0.3)
            behind, latenesses = plain_run(net, d, e, run)
            self.assertEqual(behind, past + stopped_shown(net, d, run)[:e - 1])
            for t in range(e - 1, 15):
                for house in range(3):
                    s = max(beat for beat in range(t + 1) if house in beats[beat][0])
                    self.assertEqual(latenesses[t - e + 1][house], tuple(late + t - s for late in beats[s][1][house]))


if __name__ == "__main__":
    unittest.main()

"""[57]: stopped runs, and what they show."""

import random
import unittest

from newsbehind.beats import shown
from newsbehind.lateness import is_run
from newsbehind.nets import net_of, wanted
from newsbehind.rules import branches
from newsbehind.stops import is_stopped_run, stopped_shown
from sampling import ODD_VALUES, drawn_run, drawn_stopped_run, one_way, small_net

NET = net_of([3, 3], [("part", 2, ("hear", 1)), ("clip", 1, 2, ("hear", 0))])
PAST = ((3, 0), (2, 2))
RUN = (PAST, (((0,), ((1,), (1,))), ((1,), ((1,), (2,))), ((0, 1), ((2,), (1,)))))
SELF = net_of([9], [("hear", 0)])


def beats_of(*pairs):
    """Beats of the net of one house that hears itself: pairs of whether it moves and its number."""
    return tuple(((0,) if moves else (), ((late,),)) for moves, late in pairs)


def slow_is_stopped(net, d, e, run):
    """Of what is known to have the form of a stopped run, window by window and pair of moves by pair."""
    past, beats = run
    for house in range(len(net[0])):
        for first in range(len(beats) - e + 1):
            if not any(house in movers for movers, _ in beats[first:first + e]):
                return False
        moves = [beat for beat, (movers, _) in enumerate(beats) if house in movers]
        for s, t in zip(moves, moves[1:]):
            for branch in range(len(branches(net[1][house]))):
                if beats[t][1][house][branch] > beats[s][1][house][branch] + t - s:
                    return False
    return True


def slow_shown(net, d, run):
    states = list(run[0])
    for movers, lateness in run[1]:
        state = list(states[-1])
        for house in movers:
            heard = tuple(states[len(states) - late][other] for other, late in zip(branches(net[1][house]), lateness[house]))
            state[house] = wanted(net, house, heard)
        states.append(tuple(state))
    return tuple(states[d:])


class IsStoppedRunTest(unittest.TestCase):
    def told(self, is_one, value, net=NET, d=2, e=2):
        self.assertIs(is_stopped_run(net, d, e, value), is_one, value)

    def test_by_hand(self):
        self.told(True, RUN)
        self.told(False, RUN, e=1)
        self.told(True, (PAST, ()))
        self.told(True, (PAST, ()), e=1)
        self.told(True, (PAST, (((0, 1), ((2,), (1,))),)), e=1)
        self.told(False, (PAST, (((0,), ((2,), (1,))),)), e=1)

    def test_beats_without_a_move(self):
        for e in 1, 2, 3, 8:
            for many in (0, 1, e - 1, e, e + 1, 3 * e):
                still = ((9,),) * 2
                for ahead, behind in ((True, True), (True, False), (False, True), (False, False)):
                    pairs = ((True, 1),) * ahead + ((False, 1),) * many + ((True, 1),) * behind
                    self.told(many < e, (still, beats_of(*pairs)), SELF, 2, e)
        # The windows at the begin and at the end, one by one.
        self.told(True, (((9,),) * 2, beats_of((False, 1), (True, 1), (False, 1), (True, 1), (False, 1))), SELF, 2, 2)
        self.told(False, (((9,),) * 2, beats_of((False, 1), (True, 1), (False, 1), (True, 1), (False, 1), (False, 1))), SELF,
                  2, 2)
        self.told(False, (((9,),) * 2, beats_of((False, 1), (False, 1), (True, 1))), SELF, 2, 2)
        self.told(False, (((9,),) * 2, beats_of((True, 1), (False, 1), (False, 1), (True, 1))), SELF, 2, 2)

    def test_each_house_moves(self):
        late = ((1,), (1,))
        self.told(True, (PAST, (((0,), late), ((1,), late)) * 3))
        self.told(False, (PAST, (((0,), late), ((0,), late)) * 3))
        self.told(False, (PAST, (((), late), ((0, 1), late), ((), late), ((), late))))
        self.told(True, (PAST, (((), late), ((0, 1), late), ((), late), ((0, 1), late))))
        self.told(True, (PAST, (((), late), ((), late))), e=3)

    def test_news_that_goes_back(self):
        past = tuple((worth,) for worth in range(9))
        for d, first, gone, later in ((9, 1, 1, 3), (9, 1, 3, 5), (9, 2, 2, 5), (4, 1, 2, 4), (9, 7, 1, 9)):
            # Numbers at beats without a move do not matter.
            pairs = ((True, first),) + ((False, d),) * (gone - 1)
            self.told(False, (past[:d], beats_of(*pairs, (True, later))), SELF, d, 4)
            self.told(True, (past[:d], beats_of(*pairs, (True, later - 1))), SELF, d, 4)
            self.told(True, (past[:d], beats_of(*pairs, (True, 1))), SELF, d, 4)
        self.told(True, (past, beats_of((False, 1), (True, 9), (True, 9), (False, 1), (True, 9))), SELF, 9, 2)
        self.told(False, (past, beats_of((True, 9), (True, 1), (True, 3))), SELF, 9, 2)

    def test_movers(self):
        for movers, is_one in (((0, 1), True), ((1, 0), False), ((0, 0, 1), False), ((0, 1, 2), False), ((-1, 0, 1), False),
                               ([0, 1], False), ((0, True), False), ((False, 1), False), ((0, None), False), (None, False),
                               ("01", False), (0, False), ((0, (1,)), False), ({0, 1}, False)):
            self.told(is_one, (PAST, ((movers, ((1,), (1,))),)), e=1)
        self.told(True, (PAST, (((), ((1,), (1,))),)))

    def test_forms(self):
        past, beats = RUN
        for value in ([past, beats], (past,), (past, beats, ()), (past, list(beats)), (list(past), beats), (past[:1], beats),
                      (past * 2, beats), (((3, 0), (2, 4)), beats), (past, (list(beats[0]),) + beats[1:]),
                      (past, (beats[0][:1],)),
                      (past, (beats[0] + ((),),)), (past, ((beats[0][0], [(1,), (1,)]),)), (past, None), (None, beats),
                      (past, ((beats[0][0], ((1,), (3,))),)), (past, ((beats[0][0], ((1,), (0,))),)),
                      (past, ((beats[0][0], ((1,), (True,))),)), (past, ((beats[0][0], ((1,),)),)),
                      (past, ((beats[0][0], ((1, 1), (1,))),)), (past, ((beats[0][0], ((1,), [1])),))):
            self.told(False, value)
        for value in ODD_VALUES:
            self.told(False, value)
            self.told(False, (value, beats))
            self.told(value == () and type(value) is tuple, (past, value))
            self.told(False, (past, (value,)))
            self.told(False, (past, (((0, 1), value),)), e=1)

    def test_least_and_greatest_d_and_e(self):
        rng = random.Random(571)
        for d, e in ((2, 1), (2, 8), (9, 1), (5, 5), (3, 7)):
            net = small_net(rng, heard=3)
            for _ in range(5):
                run = drawn_stopped_run(rng, net, d, e, 30, often=0.2)
                self.told(True, run, net, d, e)
                self.assertIs(is_stopped_run(net, d, e - 1, run), slow_is_stopped(net, d, e - 1, run) if e > 1 else False)

    def test_drawn_beats(self):
        rng = random.Random(572)
        seen = [0, 0]
        for _ in range(600):
            net = small_net(rng, houses=rng.choice((1, 2)), heard=2)
            d, e = rng.choice(((2, 2), (3, 2), (3, 3), (2, 4)))
            run = drawn_stopped_run(rng, net, d, e, rng.choice((2, 4, 7)))
            if rng.random() < 0.7 and run[1]:
                # One beat is told anew, with movers and lateness as they come.
                at = rng.randrange(len(run[1]))
                other = drawn_stopped_run(rng, net, d, 8, 1)[1]
                run = (run[0], run[1][:at] + other + run[1][at + 1:])
            is_one = slow_is_stopped(net, d, e, run)
            seen[is_one] += 1
            self.told(is_one, run, net, d, e)
        self.assertGreater(min(seen), 100)


class StoppedShownTest(unittest.TestCase):
    def test_by_hand(self):
        self.assertEqual(stopped_shown(NET, 2, RUN), ((1, 2), (1, 2), (1, 1)))
        self.assertEqual(stopped_shown(NET, 2, (PAST, ())), ())
        # Nobody moves at the first beat: it shows the newest state of the past.
        late = ((1,), (1,))
        self.assertEqual(stopped_shown(NET, 2, (PAST, (((), late), ((0, 1), ((2,), (2,)))))), ((2, 2), (1, 2)))

    def test_all_houses_moving(self):
        rng = random.Random(573)
        for _ in range(60):
            net = small_net(rng)
            d = rng.choice((2, 3, 9))
            past, latenesses = run = drawn_run(rng, net, d, 20)
            stopped = (past, tuple(((0, 1, 2), lateness) for lateness in latenesses))
            self.assertIs(is_stopped_run(net, d, 1, stopped), True)
            self.assertEqual(stopped_shown(net, d, stopped), shown(net, d, run))

    def test_all_houses_moving_is_a_run_and_no_other(self):
        rng = random.Random(574)
        seen = [0, 0]
        for _ in range(200):
            net = small_net(rng, houses=2, heard=2)
            past, beats = drawn_stopped_run(rng, net, 3, 2, 4)
            latenesses = tuple(lateness for _, lateness in beats)
            is_one = is_run(net, 3, (past, latenesses))
            seen[is_one] += 1
            self.assertIs(is_stopped_run(net, 3, 1, (past, tuple(((0, 1), lateness) for lateness in latenesses))), is_one)
        self.assertGreater(min(seen), 20)

    def test_drawn_runs(self):
        rng = random.Random(575)
        for _ in range(80):
            net = one_way(rng, small_net(rng, houses=rng.choice((1, 2, 3, 4))))
            d, e = rng.choice(((2, 1), (2, 8), (4, 3), (9, 1)))
            run = drawn_stopped_run(rng, net, d, e, rng.choice((0, 1, 5, 25)), often=rng.choice((0.1, 0.5, 0.9)))
            self.assertIs(is_stopped_run(net, d, e, run), True)
            self.assertEqual(stopped_shown(net, d, run), slow_shown(net, d, run))


if __name__ == "__main__":
    unittest.main()

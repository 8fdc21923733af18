"""[17], [18]: even news, and all that can show."""

import itertools
import random
import time
import unittest

from newsbehind.beats import past_behind, shown
from newsbehind.errors import Refused
from newsbehind.lateness import can_follow, is_run
from newsbehind.nets import is_rest, net_of, next_state
from newsbehind.rules import branches
from newsbehind.showing import can_show, even_run
from sampling import all_states, drawn_past, drawn_run, drawn_state, greatest_net, small_net

TURN = net_of([3, 3], [("from", 3, ("hear", 1)), ("hear", 0)])
STILL = net_of([4, 4], [("is", 1), ("is", 3)])


def all_latenesses(net, d):
    counts = [len(branches(rule)) for rule in net[1]]
    rows = [list(itertools.product(range(1, d + 1), repeat=count)) for count in counts]
    return [tuple(lateness) for lateness in itertools.product(*rows)]


def pairs_run_by_run(net, d, past, beats):
    """For each beat all pairs of a past behind it and a lateness, from all runs of so many beats, one by one."""
    every = all_latenesses(net, d)
    runs = [()]
    beat_pairs = []
    for _ in range(beats):
        runs = [run + (lateness,) for run in runs for lateness in every if not run or can_follow(run[-1], lateness)]
        beat_pairs.append({(past_behind(net, d, (past, run)), run[-1]) for run in runs})
    return beat_pairs


def states_of(pairs):
    return tuple(sorted({behind[-1] for behind, _ in pairs}))


class EvenRunTest(unittest.TestCase):
    def test_the_run(self):
        self.assertEqual(even_run(TURN, 2, (0, 3), 1), (((0, 3), (0, 3)), (((1,), (1,)),)))
        self.assertEqual(even_run(TURN, 3, (1, 2), 2), (((1, 2),) * 3, (((1,), (1,)),) * 2))
        net = net_of([3, 3], [("is", 1), ("add", (("hear", 0), ("hear", 0), ("hear", 1)))])
        self.assertEqual(even_run(net, 2, (0, 0), 1)[1], (((), (1, 1, 1)),))

    def test_no_beats(self):
        for d in (2, 9):
            self.assertEqual(even_run(TURN, d, (0, 3), 0), (((0, 3),) * d, ()))

    def test_each_state_is_the_next_of_the_one_ahead(self):
        rng = random.Random(51)
        for _ in range(40):
            net, d, beats = small_net(rng), rng.choice((2, 3, 9)), rng.choice((0, 1, 2, 20))
            state = drawn_state(rng, net)
            run = even_run(net, d, state, beats)
            self.assertIs(is_run(net, d, run), True)
            self.assertEqual(len(run[1]), beats)
            for behind in shown(net, d, run):
                state = next_state(net, state)
                self.assertEqual(behind, state)

    def test_2000_beats(self):
        for d in (2, 9):
            run = even_run(TURN, d, (0, 3), 2000)
            self.assertIs(is_run(TURN, d, run), True)
            self.assertEqual(shown(TURN, d, run), ((0, 0), (3, 0), (3, 3), (0, 3)) * 500)

    def test_a_rest_stays(self):
        rng = random.Random(52)
        found = 0
        for _ in range(60):
            net = small_net(rng, houses=2)
            for state in all_states(net):
                if is_rest(net, state):
                    found += 1
                    self.assertEqual(shown(net, 2, even_run(net, 2, state, 4)), (state,) * 4)
                    late = drawn_run(rng, net, 3, 12)[1]
                    self.assertEqual(shown(net, 3, ((state,) * 3, late)), (state,) * 12)
                    self.assertEqual(can_show(net, 2, (state,) * 2, 5, 10 ** 6), (state,))
        self.assertGreater(found, 30)

    def test_what_comes_again_goes_on_coming_again(self):
        lateness = ((2,), (1,))
        states = shown(TURN, 2, (((0, 3), (1, 2)), (lateness,) * 60))
        seen = {}
        for at in range(len(states) - 1):
            ahead = seen.setdefault(states[at:at + 2], at)
            if ahead < at:
                self.assertEqual(states[at:], states[ahead:ahead + len(states) - at])
        self.assertLess(len(seen), 59)


class CanShowTest(unittest.TestCase):
    def refused(self, net, d, past, beat, most):
        with self.assertRaises(Refused) as caught:
            can_show(net, d, past, beat, most)
        self.assertEqual(caught.exception.at, most)

    def test_told(self):
        past = ((0, 0), (3, 1))
        self.assertEqual(can_show(TURN, 2, past, 0, 4), ((2, 0), (2, 3), (3, 0), (3, 3)))
        self.assertEqual(can_show(net_of([9], [("hear", 0)]), 3, ((5,), (2,), (7,)), 0, 3), ((2,), (5,), (7,)))
        self.assertEqual(can_show(net_of([9], [("hear", 0)]), 3, ((5,), (2,), (7,)), 1, 9), ((2,), (5,), (7,)))

    def test_news_does_not_overtake(self):
        # Behind the lateness 1 just 1 and 2 may come, so what was shown 3 beats ago is heard no more.
        net = net_of([9], [("row", (9, 8, 7, 6, 5, 4, 3, 2, 1, 0), ("hear", 0))])
        past = ((0,), (1,), (2,))
        self.assertEqual(can_show(net, 3, past, 0, 3), ((7,), (8,), (9,)))
        self.assertEqual(can_show(net, 3, past, 1, 9), ((0,), (1,), (2,), (7,), (8,)))

    def test_no_branches(self):
        past = ((0, 0), (4, 4))
        for beat in (0, 1, 1999):
            self.assertEqual(can_show(STILL, 2, past, beat, 1), ((1, 3),))
            self.refused(STILL, 2, past, beat, 0)

    def test_as_all_runs_tell_one_by_one(self):
        rng = random.Random(53)
        unlike = 0
        for _ in range(60):
            houses, d = rng.choice(((1, 2), (1, 3), (1, 4), (2, 2), (2, 3), (3, 2)))
            net = small_net(rng, houses=houses, many=(1, 2, 3), top=3, heard=1)
            past = drawn_past(rng, net, d)
            beat_pairs = pairs_run_by_run(net, d, past, 3)
            for beat, pairs in enumerate(beat_pairs):
                most = max(map(len, beat_pairs[:beat + 1]))
                self.assertEqual(can_show(net, d, past, beat, most), states_of(pairs))
                self.assertEqual(can_show(net, d, past, beat, most + 1), states_of(pairs))
                self.assertEqual(can_show(net, d, past, beat, 10 ** 400), states_of(pairs))
                for less in (most - 1, most // 2, 0):
                    self.refused(net, d, past, beat, less)
                unlike += len(states_of(pairs)) > 1
        self.assertGreater(unlike, 40)

    def test_more_branches_at_one_house(self):
        rng = random.Random(54)
        for _ in range(12):
            net = small_net(rng, houses=2, many=(4, 6), top=3, heard=2)
            past = drawn_past(rng, net, 2)
            beat_pairs = pairs_run_by_run(net, 2, past, 2)
            for beat, pairs in enumerate(beat_pairs):
                self.assertEqual(can_show(net, 2, past, beat, max(map(len, beat_pairs))), states_of(pairs))

    def test_as_many_pairs_at_beat_0_as_latenesses(self):
        net = net_of([5, 5], [("add", (("hear", 0), ("hear", 1))), ("hear", 1)])
        for d in (2, 3, 9):
            past = ((2, 2),) * d
            self.assertEqual(can_show(net, d, past, 0, d ** 3), ((4, 2),))
            self.refused(net, d, past, 0, d ** 3 - 1)

    def test_pairs_grow(self):
        past = ((0, 0), (3, 1))
        counts = [len(pairs) for pairs in pairs_run_by_run(TURN, 2, past, 4)]
        self.assertEqual(counts, sorted(counts))
        self.assertLess(counts[0], counts[-1])
        for beat, count in enumerate(counts):
            self.assertGreater(len(can_show(TURN, 2, past, beat, count)), 0)
            self.refused(TURN, 2, past, beat, count - 1)

    def test_more_pairs_at_an_earlier_beat(self):
        # What differs in the past is forgotten: later beats have fewer pairs than the first ones.
        net = net_of([3, 3], [("part", 2, ("hear", 1)), ("part", 2, ("hear", 0))])
        past = ((0, 3), (3, 0))
        counts = [len(pairs) for pairs in pairs_run_by_run(net, 2, past, 5)]
        most = max(counts)
        self.assertLess(counts[-1], most)
        self.assertEqual(can_show(net, 2, past, 4, most), ((0, 0),))
        self.refused(net, 2, past, 4, most - 1)
        self.refused(net, 2, past, 1999, most - 1)

    def test_late_beats(self):
        turning = net_of([3], [("bar", 2, 3, 0, ("hear", 0))])
        self.assertEqual(can_show(turning, 2, ((3,), (3,)), 0, 100), ((0,),))
        self.assertEqual(can_show(turning, 2, ((3,), (3,)), 1999, 100), ((0,), (3,)))
        net = net_of([2], [("is", 2)])
        self.assertEqual(can_show(net, 9, ((0,),) * 9, 1999, 1), ((2,),))

    def test_what_can_show_turns_round_for_ever(self):
        # With the latenesses 1 and 2 it shows 0, 1, 2 .. in turns; with any other ones, once, the top for ever.
        for turn in (3, 4, 5, 7):
            many = turn + 1
            entries = [turn] * many * many
            for worth in range(turn):
                entries[many * ((worth + 1) % turn) + worth] = (worth + 2) % turn
            net = net_of([turn], [("row", tuple(entries), ("add", (("times", many, ("hear", 0)), ("hear", 0))))])
            for beat in list(range(60)) + [997, 998, 1996, 1997, 1998, 1999]:
                self.assertEqual(can_show(net, 2, ((0,), (1,)), beat, 100), (((beat + 2) % turn,), (turn,)))

    def test_late_beats_as_beat_by_beat(self):
        rng = random.Random(55)
        for _ in range(25):
            net, d = small_net(rng, houses=rng.choice((1, 2)), many=(1, 2, 3), top=2, heard=1), rng.choice((2, 3))
            past = drawn_past(rng, net, d)
            every = all_latenesses(net, d)
            pairs = {(past, ((d,) * 12,) * 3)}
            for beat in range(40):
                pairs = {(ahead[1:] + shown(net, d, (ahead, (lateness,))), lateness)
                         for ahead, old in pairs for lateness in every if can_follow(old, lateness)}
                if beat in (0, 1, 5, 6, 7, 8, 17, 39):
                    self.assertEqual(can_show(net, d, past, beat, 10 ** 6), states_of(pairs))

    def test_what_shows_in_runs_can_show(self):
        rng = random.Random(56)
        for _ in range(30):
            net, d = small_net(rng, houses=2, many=(1, 2, 3), top=2, heard=1), rng.choice((2, 3))
            run = drawn_run(rng, net, d, 9)
            for beat, state in enumerate(shown(net, d, run)):
                self.assertIn(state, can_show(net, d, run[0], beat, 10 ** 6))

    def test_what_can_show_with_d_can_with_one_more(self):
        rng = random.Random(57)
        for _ in range(20):
            net = small_net(rng, houses=2, many=(1, 2, 3), top=2, heard=1)
            past = drawn_past(rng, net, 2)
            for beat in range(4):
                less = can_show(net, 2, past, beat, 10 ** 6)
                more = can_show(net, 3, (drawn_state(rng, net),) + past, beat, 10 ** 6)
                self.assertLessEqual(set(less), set(more))

    def test_refused_soon(self):
        begun = time.monotonic()
        net = greatest_net()
        for d, most in ((2, 0), (2, 1000), (9, 10 ** 6), (9, 9 ** 240 - 1)):
            for beat in (0, 1, 1999):
                self.refused(net, d, ((7,) * 20,) * d, beat, most)
        ring = net_of([1000] * 20, [("hear", (house + 1) % 20) for house in range(20)])
        self.refused(ring, 9, tuple((late,) * 20 for late in range(9)), 0, 10 ** 5)
        deep = net_of([1000] * 4, [("from", 1000, ("hear", (house + 1) % 4)) for house in range(4)])
        self.refused(deep, 9, tuple((late, 2 * late, 500, 90 * late) for late in range(9)), 1999, 9 ** 4)
        self.assertLess(time.monotonic() - begun, 5)

    def test_beat_1999(self):
        begun = time.monotonic()
        past = ((0, 0), (3, 1))
        self.assertEqual(can_show(TURN, 2, past, 1999, 10 ** 6), can_show(TURN, 2, past, 60, 10 ** 6))
        # Many pairs at each beat, so that not all of 2,000 beats can be gone through.
        net = net_of([3] * 3, [("from", 3, ("hear", 1)), ("hear", 2), ("row", (1, 3, 0, 2), ("hear", 0))])
        past = ((0, 1, 2), (3, 1, 0))
        self.assertEqual(can_show(net, 2, past, 1999, 10 ** 6), can_show(net, 2, past, 40, 10 ** 6))
        self.assertLess(time.monotonic() - begun, 20)


if __name__ == "__main__":
    unittest.main()

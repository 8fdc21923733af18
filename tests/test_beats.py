"""[15], [16]: what runs show, and runs cut and led on."""

import random
import unittest

from newsbehind.beats import led_on, past_behind, shown, shows_next
from newsbehind.errors import InvalidRun
from newsbehind.lateness import is_past, is_run
from newsbehind.nets import is_state, net_of, next_state
from newsbehind.rules import branches, told
from sampling import ODD_VALUES, drawn_lateness, drawn_net, drawn_past, drawn_run, drawn_state

NET = net_of([9, 9], [("hear", 1), ("add", (("hear", 0), ("hear", 0)))])
PAST = ((1, 2), (3, 4), (5, 6))
ONES = ((1,), (1, 1))
RUN = (PAST, (ONES, ((2,), (2, 1)), ((3,), (1, 2))))
CALM = net_of([3, 3], [("is", 2), ("hear", 0)])


def slowly_shown(net, d, run):
    """The states of a run, each house at each beat reckoned from all that was shown before."""
    states = list(run[0])
    for beat, lateness in enumerate(run[1]):
        state = []
        for house, (top, rule) in enumerate(zip(*net)):
            heard = tuple(states[d + beat - late][other] for other, late in zip(branches(rule), lateness[house]))
            state.append(min(top, told(rule, heard)))
        states.append(tuple(state))
    return tuple(states[d:])


class ShowsNextTest(unittest.TestCase):
    def test_1_is_the_last_state(self):
        self.assertEqual(shows_next(NET, PAST, ONES), (6, 9))
        self.assertEqual(shows_next(NET, PAST, ONES), next_state(NET, PAST[-1]))

    def test_d_is_the_first_state(self):
        self.assertEqual(shows_next(NET, PAST, ((3,), (3, 3))), (2, 2))
        self.assertEqual(shows_next(NET, PAST, ((3,), (3, 3))), next_state(NET, PAST[0]))

    def test_each_branch_on_its_own(self):
        self.assertEqual(shows_next(NET, PAST, ((2,), (3, 2))), (4, 4))
        self.assertEqual(shows_next(NET, PAST, ((2,), (3, 1))), (4, 6))
        self.assertEqual(shows_next(NET, PAST[1:], ((2,), (1, 2))), (4, 8))

    def test_d_of_9(self):
        past = tuple((worth, 9 - worth) for worth in range(9))
        for late in range(1, 10):
            self.assertEqual(shows_next(NET, past, ((late,), (late, late))), next_state(NET, past[-late]))


class ShownTest(unittest.TestCase):
    def wrong(self, at, value, d=3):
        with self.assertRaises(InvalidRun) as caught:
            shown(NET, d, value)
        self.assertEqual(caught.exception.at, at, value)

    def test_beat_by_beat(self):
        self.assertEqual(shown(NET, 3, RUN), ((6, 9), (6, 9), (6, 9)))
        self.assertEqual(shown(NET, 2, (((0, 0), (1, 2)), (ONES, ((2,), (2, 1)), ((2,), (1, 2))))), ((2, 2), (2, 3), (2, 4)))

    def test_no_beats(self):
        self.assertEqual(shown(NET, 3, (PAST, ())), ())

    def test_no_pair_with_a_past_first(self):
        for value in ODD_VALUES:
            self.wrong(0, value)
            self.wrong(0, (value, ()))
        for value in (list(RUN), RUN + ((),), RUN[:1], (PAST[1:], ()), (PAST + PAST, ()), (list(PAST), ()), (RUN[1], PAST),
                      (PAST[:2] + ((10, 0),), ()), (PAST[:2] + ([5, 6],), ()), (PAST[:2] + ((5, True),), ()), (None, None)):
            self.wrong(0, value)
        self.wrong(0, RUN, d=2)
        self.wrong(0, RUN, d=9)

    def test_no_tuple_of_latenesses(self):
        for value in ODD_VALUES + ([ONES],):
            if not isinstance(value, tuple):
                self.wrong(1, (PAST, value))

    def test_the_first_wrong_lateness(self):
        for value in ODD_VALUES + (((4,), (1, 1)), ((0,), (1, 1)), ((1,), (1,)), ((1,), [1, 1]), list(ONES), ((True,), (1, 1))):
            for many in range(4):
                self.wrong(2 + many, (PAST, (ONES,) * many + (value,)))
                self.wrong(2 + many, (PAST, (ONES,) * many + (value, None, ONES)))

    def test_what_may_not_follow(self):
        self.wrong(3, (PAST, (ONES, ((3,), (1, 1)), None)))
        self.wrong(3, (PAST, (ONES, ((1,), (1, 3)))))
        self.wrong(4, (PAST, (ONES, ((2,), (1, 1)), ((3,), (3, 1)))))
        self.wrong(3, (PAST, (((2,), (2, 1)), ((2,), (2, 3)))))
        self.assertEqual(len(shown(NET, 3, (PAST, (((3,), (3, 3)), ONES, ((2,), (2, 2)), ((3,), (3, 3)))))), 4)

    def test_entries_without_branches(self):
        still = net_of([3], [("is", 1)])
        self.assertEqual(shown(still, 2, (((0,), (3,)), (((),), ((),)))), ((1,), (1,)))

    def test_as_reckoned_another_way(self):
        rng = random.Random(21)
        for _ in range(60):
            net, d = drawn_net(rng, most_top=rng.choice((1, 9, 1000))), rng.choice((2, 3, 9))
            run = drawn_run(rng, net, d, rng.choice((0, 1, d - 1, d, d + 1, 25)))
            states = shown(net, d, run)
            self.assertEqual(states, slowly_shown(net, d, run))
            self.assertEqual(len(states), len(run[1]))
            self.assertTrue(all(is_state(net, state) for state in states))

    def test_a_rest_stays(self):
        rng = random.Random(22)
        run = ((((2, 2),) * 4), drawn_run(rng, CALM, 4, 12)[1])
        self.assertEqual(shown(CALM, 4, run), ((2, 2),) * 12)

    def test_even_news(self):
        rng = random.Random(23)
        net = drawn_net(rng, houses=3)
        state = drawn_state(rng, net)
        ones = tuple((1,) * len(branches(rule)) for rule in net[1])
        states = shown(net, 2, ((state,) * 2, (ones,) * 5))
        for behind in states:
            state = next_state(net, state)
            self.assertEqual(behind, state)


class CutTest(unittest.TestCase):
    def wrong(self, at, value, run=RUN):
        with self.assertRaises(InvalidRun) as caught:
            led_on(NET, 3, run, value)
        self.assertEqual(caught.exception.at, at, value)

    def test_the_past_behind(self):
        run = (PAST, (((3,), (3, 3)), ((2,), (2, 3)), ((3,), (1, 1)), ((3,), (1, 1))))
        self.assertEqual(shown(NET, 3, run), ((2, 2), (6, 8), (6, 9), (2, 9)))
        for beats, behind in enumerate((
            PAST, ((3, 4), (5, 6), (2, 2)), ((5, 6), (2, 2), (6, 8)), ((2, 2), (6, 8), (6, 9)), ((6, 8), (6, 9), (2, 9)),
        )):
            self.assertEqual(past_behind(NET, 3, (PAST, run[1][:beats])), behind)

    def test_led_on(self):
        self.assertEqual(led_on(NET, 3, RUN, ()), RUN)
        self.assertEqual(led_on(NET, 3, RUN, (ONES, ONES)), (PAST, RUN[1] + (ONES, ONES)))
        self.assertEqual(led_on(NET, 3, (PAST, ()), RUN[1]), RUN)

    def test_led_on_by_no_tuple(self):
        for value in ODD_VALUES + ([], [ONES]):
            if not isinstance(value, tuple):
                self.wrong(1, value)

    def test_led_on_by_what_is_no_lateness(self):
        for value in ODD_VALUES + (((4,), (1, 1)), ((0,), (1, 1)), ((1,), (1,)), list(ONES), PAST):
            self.wrong(2, (value,), run=(PAST, ()))
            self.wrong(5, (value,))
            self.wrong(6, (ONES, value, None))
        self.wrong(5, ONES)

    def test_led_on_by_what_may_not_follow(self):
        self.wrong(5, (((1,), (1, 3)),), run=(PAST, (ONES,) * 3))
        self.wrong(5, (((1,), (3, 1)),))
        self.wrong(7, (ONES, ONES, ((3,), (1, 1)), None))
        self.assertEqual(len(led_on(NET, 3, RUN, (((3,), (2, 3)),))[1]), 4)
        self.assertEqual(led_on(NET, 3, (PAST, ()), (((3,), (3, 3)),))[1], (((3,), (3, 3)),))

    def test_cut_at_each_beat(self):
        rng = random.Random(24)
        for d in (2, 3, 9):
            net = drawn_net(rng, houses=3, most_top=9)
            run = drawn_run(rng, net, d, 2 * d + 3)
            states = shown(net, d, run)
            for beat in range(len(run[1]) + 1):
                cut = (run[0], run[1][:beat])
                behind = past_behind(net, d, cut)
                self.assertIs(is_past(net, d, behind), True)
                self.assertEqual(behind, (run[0] + states[:beat])[-d:])
                self.assertEqual(shown(net, d, cut), states[:beat])
                self.assertEqual(shown(net, d, (behind, run[1][beat:])), states[beat:])
                self.assertEqual(led_on(net, d, cut, run[1][beat:]), run)
                if beat < len(states):
                    self.assertEqual(shows_next(net, behind, run[1][beat]), states[beat])

    def test_what_is_led_on_is_a_run(self):
        rng = random.Random(25)
        net = drawn_net(rng, houses=2)
        run = (drawn_past(rng, net, 4), ())
        for _ in range(12):
            ahead = run[1][-1] if run[1] else None
            run = led_on(net, 4, run, (drawn_lateness(rng, net, 4, ahead),))
            self.assertIs(is_run(net, 4, run), True)
        self.assertEqual(len(shown(net, 4, run)), 12)


if __name__ == "__main__":
    unittest.main()

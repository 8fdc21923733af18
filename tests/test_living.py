"""[61]: closed ends, lives, what is known of them and when they rest."""

import itertools
import random
import unittest

from newsbehind.beats import shown
from newsbehind.ends import first_ends, last_ends, next_ends
from newsbehind.errors import Refused
from newsbehind.living import begun, closed, is_life, known, rests_in
from newsbehind.nets import net_of
from newsbehind.resting import ends_at, rests_always, settled_from
from newsbehind.toggles import toggle_run
from newsbehind.traps import is_trap, trap_around
from sampling import ODD_VALUES, drawn_ends, drawn_run, drawn_state, one_way, small_net
from test_traps import all_ends, within

NET = net_of([8, 8], [("part", 2, ("hear", 1)), ("hear", 0)])
TWO = net_of([3, 3], [("most", (("is", 1), ("hear", 1))), ("clip", 0, 2, ("hear", 0))])
BOTH = ("row", (0, 2, 1), ("hear", 0))


def aged(life, age):
    return life[:3] + (age,)


def slow_known(life):
    net, d, ends, age = life
    for _ in range(age // d):
        ends = next_ends(net, ends)
    return ends


def slow_rests_in(life):
    """By beat after beat, as long as something may still turn."""
    for beats in range(life[1] * (sum(life[0][0]) + 1) + 1):
        lows, highs = slow_known(aged(life, life[3] + beats))
        if lows == highs:
            return beats
    return None


def drawn_life(rng, houses=3, top=3):
    net = one_way(rng, small_net(rng, houses=houses, top=top))
    return net, rng.choice((2, 3, 9)), closed(net, drawn_ends(rng, net)), rng.choice((0, 1, 2, 5, 8, 30))


def seen_in(rng, life, beats):
    """The past and the states of a run that the life stands for if its age is 0."""
    net, d, (lows, highs), _ = life
    past = tuple(tuple(rng.randint(low, high) for low, high in zip(lows, highs)) for _ in range(d))
    return past, shown(net, d, (past, drawn_run(rng, net, d, beats)[1]))


class ClosedTest(unittest.TestCase):
    def test_by_hand(self):
        self.assertEqual(closed(NET, ((0, 0), (4, 4))), ((0, 0), (4, 4)))
        self.assertEqual(closed(NET, ((3, 3), (4, 4))), ((0, 0), (4, 4)))
        self.assertEqual(closed(NET, ((3, 3), (4, 3))), ((0, 0), (4, 4)))
        self.assertEqual(closed(NET, ((0, 0), (0, 0))), ((0, 0), (0, 0)))
        self.assertEqual(closed(TWO, ((3, 1), (3, 1))), ((1, 1), (3, 2)))
        self.assertEqual(closed(TWO, ((2, 2), (3, 3))), ((2, 2), (3, 3)))

    def test_least_of_all_closed_ends(self):
        rng = random.Random(611)
        for _ in range(40):
            net = one_way(rng, small_net(rng, houses=2))
            every = [ends for ends in all_ends(net) if within(next_ends(net, ends), ends)]
            for _ in range(6):
                ends = drawn_ends(rng, net)
                told = closed(net, ends)
                self.assertIn(told, every)
                self.assertTrue(within(ends, told))
                for others in every:
                    if within(ends, others):
                        self.assertTrue(within(told, others))

    def test_closed_ends_are_their_own(self):
        rng = random.Random(612)
        for _ in range(60):
            net = one_way(rng, small_net(rng))
            told = closed(net, drawn_ends(rng, net))
            self.assertIs(is_trap(net, told), True)
            self.assertEqual(closed(net, told), told)
            self.assertIs(is_trap(net, next_ends(net, told)), True)
            state = drawn_state(rng, net)
            self.assertEqual(closed(net, (state, state)), trap_around(net, state))
            self.assertEqual(closed(net, first_ends(net)), first_ends(net))
            self.assertEqual(closed(net, last_ends(net)), last_ends(net))


class IsLifeTest(unittest.TestCase):
    def told(self, is_one, value):
        self.assertIs(is_life(value), is_one, value)

    def test_by_hand(self):
        ends = ((0, 0), (4, 4))
        for d in range(2, 10):
            self.told(True, (NET, d, ends, 0))
        for d in (1, 10, 0, -2, True, False, None, "2", 2.0, (2,), 10 ** 399):
            self.told(False, (NET, d, ends, 0))
        for age in (0, 1, 5, 10 ** 399):
            self.told(True, (NET, 2, ends, age))
        for age in (-1, True, False, None, "0", 1.0, (0,), -10 ** 399):
            self.told(False, (NET, 2, ends, age))

    def test_forms(self):
        life = (NET, 2, ((0, 0), (8, 8)), 3)
        self.told(True, life)
        for value in (list(life), life[:3], life + (0,), (life,), (NET, 2, [(0, 0), (8, 8)], 3),
                      (NET, 2, ([0, 0], (8, 8)), 3),
                      (list(NET), 2, life[2], 3), ((list(NET[0]), NET[1]), 2, life[2], 3), (NET, 2, ((0, 0), (8, 9)), 3),
                      (NET, 2, ((5, 0), (4, 8)), 3), (NET, 2, ((0,), (8,)), 3), (NET, 2, ((0, False), (8, 8)), 3),
                      (2, NET, life[2], 3)):
            self.told(False, value)
        for value in ODD_VALUES:
            self.told(False, value)
            self.told(False, (value, 2, life[2], 3))
            self.told(False, (NET, 2, value, 3))

    def test_ends_that_are_not_closed(self):
        self.told(False, (NET, 2, ((0, 0), (4, 3)), 0))
        self.told(False, (NET, 2, ((4, 4), (4, 4)), 0))
        self.told(True, (NET, 2, ((0, 0), (0, 0)), 0))
        rng = random.Random(613)
        seen = [0, 0]
        for _ in range(40):
            net = one_way(rng, small_net(rng, houses=2))
            for ends in rng.choices(all_ends(net), k=4):
                is_one = within(next_ends(net, ends), ends)
                seen[is_one] += 1
                self.told(is_one, (net, 3, ends, 7))
        self.assertGreater(min(seen), 20)

    def test_a_branch_that_goes_both_ways(self):
        for house in range(2):
            rules = [("is", 1)] * house + [BOTH] + [("is", 1)] * (1 - house)
            self.told(False, (net_of([2, 2], rules), 2, ((0, 0), (2, 2)), 0))


class BegunTest(unittest.TestCase):
    def test_by_hand(self):
        self.assertEqual(begun(NET, 2), (NET, 2, ((0, 0), (8, 8)), 0))
        for d in range(2, 10):
            self.assertIs(is_life(begun(NET, d)), True)

    def test_a_branch_that_goes_both_ways(self):
        for house in range(3):
            net = net_of([2, 2, 2], [("is", 0)] * house + [BOTH] * (3 - house))
            with self.assertRaises(Refused) as caught:
                begun(net, 2)
            self.assertEqual(caught.exception.at, house)


class KnownTest(unittest.TestCase):
    def test_by_hand(self):
        life = begun(NET, 2)
        for age, ends in ((0, ((0, 0), (8, 8))), (1, ((0, 0), (8, 8))), (2, ((0, 0), (4, 8))), (3, ((0, 0), (4, 8))),
                          (5, ((0, 0), (4, 4))),
                          (6, ((0, 0), (2, 4))), (15, ((0, 0), (0, 1))), (16, ((0, 0), (0, 0))),
                          (10 ** 399, ((0, 0), (0, 0)))):
            self.assertEqual(known(aged(life, age)), ends)
        for d in range(2, 10):
            life = begun(NET, d)
            self.assertEqual(known(aged(life, d - 1)), ((0, 0), (8, 8)))
            self.assertEqual(known(aged(life, d)), ((0, 0), (4, 8)))

    def test_round_by_round(self):
        rng = random.Random(614)
        for _ in range(80):
            life = drawn_life(rng)
            self.assertEqual(known(life), slow_known(life))

    def test_of_a_life_begun_it_is_what_can_show(self):
        rng = random.Random(615)
        for _ in range(40):
            net = one_way(rng, small_net(rng))
            d = rng.choice((2, 5))
            for age in range(d, 4 * d):
                # The d states ahead of the beat with this number were shown since.
                self.assertEqual(known(aged(begun(net, d), age)), ends_at(net, d, age - d))

    def test_all_that_was_shown_in_the_last_beats_lies_within(self):
        rng = random.Random(616)
        for _ in range(80):
            life = aged(drawn_life(rng), 0)
            d = life[1]
            past, states = seen_in(rng, life, 4 * d)
            every = past + states
            for age in range(4 * d + 1):
                lows, highs = known(aged(life, age))
                for state in every[age:age + d]:
                    self.assertTrue(all(low <= worth <= high for low, worth, high in zip(lows, state, highs)))


class RestsInTest(unittest.TestCase):
    def test_by_hand(self):
        life = begun(NET, 2)
        for age in range(20):
            self.assertEqual(rests_in(aged(life, age)), max(16 - age, 0))
        for d in range(2, 10):
            for age in (0, 1, d, 5 * d - 1, 5 * d, 8 * d - 1, 8 * d, 8 * d + 1, 10 ** 399):
                self.assertEqual(rests_in(aged(begun(NET, d), age)), max(8 * d - age, 0))
        self.assertEqual(rests_in((NET, 2, ((0, 0), (0, 0)), 0)), 0)
        self.assertIs(rests_in(begun(net_of([3], [("hear", 0)]), 2)), None)

    def test_a_net_that_does_not_rest_always(self):
        # Within the upper trap it comes to one rest, though there are two.
        self.assertIs(rests_always(TWO), False)
        self.assertIs(rests_in(begun(TWO, 2)), None)
        self.assertEqual(rests_in((TWO, 2, ((2, 2), (3, 3)), 0)), 4)
        self.assertEqual(rests_in((TWO, 2, ((2, 2), (3, 3)), 3)), 1)
        self.assertEqual(rests_in((TWO, 3, ((2, 2), (3, 2)), 1)), 2)
        self.assertIs(rests_in((TWO, 2, ((1, 1), (2, 2)), 999)), None)

    def test_beat_by_beat(self):
        rng = random.Random(617)
        seen = [0, 0]
        for _ in range(120):
            life = drawn_life(rng, houses=2)
            told = slow_rests_in(life)
            seen[told is None] += 1
            self.assertEqual(rests_in(life), told)
        self.assertGreater(min(seen), 15)

    def test_a_net_that_rests_always(self):
        rng = random.Random(618)
        for _ in range(80):
            net = one_way(rng, small_net(rng))
            d = rng.choice((2, 3, 9))
            if rests_always(net):
                self.assertIn(rests_in(begun(net, d)) - settled_from(net, d), (0, d))
                self.assertIsNot(rests_in((net, d, closed(net, drawn_ends(rng, net)), 3)), None)
            else:
                self.assertIs(rests_in(begun(net, d)), None)

    def test_all_runs_come_to_the_state_or_to_several(self):
        rng = random.Random(619)
        seen = [0, 0]
        for _ in range(150):
            life = aged(drawn_life(rng), 0)
            net, d, ends, _ = life
            beats = rests_in(life)
            seen[beats is None] += 1
            if beats is None:
                # The ends to which these lead are shown in turns by a run that the life stands for.
                last = known(aged(life, d * 100))
                run = toggle_run(net, d, last, 4)
                self.assertTrue(all(within((state, state), ends) for state in run[0]))
                self.assertEqual(shown(net, d, run), last * 2)
            else:
                rest = known(aged(life, beats))[0]
                past, states = seen_in(rng, life, beats + 9)
                self.assertEqual(set((past + states)[beats:]), {rest})
        self.assertGreater(min(seen), 20)

    def test_nothing_is_known_the_sooner(self):
        for life in itertools.chain([begun(NET, d) for d in range(2, 10)], [(TWO, 4, ((2, 2), (3, 3)), 1)]):
            beats = rests_in(life)
            for age, is_one in ((beats - 1, False), (beats, True), (beats + 1, True)):
                lows, highs = known(aged(life, life[3] + age))
                self.assertIs(lows == highs, is_one)


if __name__ == "__main__":
    unittest.main()

"""[59] and [60]: lost news, and by which beat a net rests with stops and losses."""

import random
import unittest

from newsbehind.beats import shown
from newsbehind.errors import Refused
from newsbehind.lateness import is_lateness, is_run
from newsbehind.losses import are_lossy, filled, longest_loss, settled_with
from newsbehind.nets import heard_in, net_of
from newsbehind.resting import rests_always, settled_from, the_rest
from newsbehind.rules import branches
from newsbehind.stops import is_stopped_run, stopped_shown
from sampling import ODD_VALUES, drawn_lossy, drawn_past, drawn_run, drawn_stopped_run, one_way, small_net

NET = net_of([3, 3], [("part", 2, ("hear", 1)), ("clip", 1, 2, ("hear", 0))])
ROWS = (((1,), (2,)), ((None,), (1,)), ((None,), (None,)), ((1,), (2,)))
SELF = net_of([9], [("hear", 0)])
SUM = net_of([9], [("add", (("hear", 0), ("hear", 0)))])


def rows_of(*numbers):
    return tuple(((late,),) for late in numbers)


def slow_is_lossy(numbers):
    """Whether these entries of a branch may be, by looking back from each number to the last one ahead."""
    if numbers and numbers[0] is None:
        return False
    for t, late in enumerate(numbers):
        ahead = [s for s in range(t) if numbers[s] is not None]
        if late is not None and ahead and late > numbers[ahead[-1]] + t - ahead[-1]:
            return False
    return True


class AreLossyTest(unittest.TestCase):
    def told(self, is_one, value, net=SELF, d=9):
        self.assertIs(are_lossy(net, d, value), is_one, value)

    def test_by_hand(self):
        self.told(True, ROWS, NET, 2)
        self.told(True, (), NET, 2)
        self.told(False, ROWS[1:], NET, 2)
        self.told(True, ROWS[:1], NET, 2)
        self.told(False, ROWS[::-1][1:], NET, 2)

    def test_none_at_the_first_beat(self):
        self.told(False, rows_of(None))
        self.told(False, rows_of(None, 1))
        self.told(False, (((1, None),),), SUM)
        self.told(True, (((1, 2),), ((None, None),)), SUM)

    def test_just_1_more_for_each_none(self):
        for first in 1, 2, 5:
            for lost in 0, 1, 2, 3:
                numbers = (first,) + (None,) * lost
                self.told(True, rows_of(*numbers, first + lost + 1))
                self.told(False, rows_of(*numbers, first + lost + 2) if first + lost + 2 < 10 else rows_of(*numbers, 10))
                self.told(True, rows_of(*numbers, 1))
        self.told(True, rows_of(1, None, 3, None, None, 6, None, 8, 9, 9))
        self.told(False, rows_of(1, None, 3, None, None, 7))
        self.told(False, rows_of(1, 3))
        # What is lost at one branch lets no other one go back.
        self.told(True, (((1, 1),), ((None, 2),), ((3, 3),)), SUM)
        self.told(False, (((1, 1),), ((None, 1),), ((3, 3),)), SUM)

    def test_numbers_above_d(self):
        self.told(True, rows_of(2, 2), d=2)
        self.told(False, rows_of(2, 3), d=2)
        self.told(False, rows_of(3), d=2)
        self.told(False, rows_of(2, None, 3), d=2)
        self.told(True, rows_of(2, None, None, None, None, None, None, None, None, None, None, 2), d=2)
        self.told(False, rows_of(0))
        self.told(False, rows_of(-1))

    def test_forms(self):
        for value in ([((1,),)], ([(1,)],), (([1],),), (((True,),),), (((1,),), ((False,),)), (((1.0,),),), ((("1",),),),
                      (((1, 1),),),
                      (((),),), ((),), (((1,), (1,)),), (((1,),), None), (((1,),), (None,)), (((1,),), ((),)), (1,),
                      ((1,),)):
            self.told(False, value)
        for value in ODD_VALUES:
            self.told(value == () and type(value) is tuple, value)
            self.told(False, (value,))
            self.told(repr(value) in ("(1,)", "(None,)"), (((1,),), (value,)))
            self.told(value is None or repr(value) == "1", (((1,),), ((value,),)))

    def test_a_house_without_branches(self):
        net = net_of([1, 2], [("is", 1), ("hear", 0)])
        self.told(True, (((), (1,)), ((), (None,))), net)
        self.told(False, (((None,), (1,)),), net)
        self.told(True, (((),),) * 3, net_of([1], [("is", 1)]))
        self.told(False, (((None,),),) * 3, net_of([1], [("is", 1)]))

    def test_drawn_ones(self):
        rng = random.Random(591)
        seen = [0, 0]
        for _ in range(600):
            numbers = [rng.choice((None, 1, 1, 2, 3, 4)) for _ in range(rng.choice((1, 2, 3, 5)))]
            seen[slow_is_lossy(numbers)] += 1
            self.told(slow_is_lossy(numbers), rows_of(*numbers), d=4)
            self.told(slow_is_lossy(numbers), tuple(((late,), (1, 1), (late,)) for late in numbers),
                      net_of([9] * 3, [("hear", 0), ("add", (("hear", 1), ("hear", 2))), ("hear", 1)]), d=4)
        self.assertGreater(min(seen), 100)

    def test_without_losses_they_are_those_of_runs(self):
        rng = random.Random(592)
        for _ in range(60):
            net = small_net(rng)
            run = drawn_run(rng, net, 3, 6)
            self.told(True, run[1], net, 3)
            late = tuple(tuple(tuple(rng.randint(1, 3) for _ in row) for row in entry) for entry in run[1][:2])
            self.told(is_run(net, 3, (run[0], late)), late, net, 3)


class FilledTest(unittest.TestCase):
    def test_by_hand(self):
        self.assertEqual(filled(ROWS), (((1,), (2,)), ((2,), (1,)), ((3,), (2,)), ((1,), (2,))))
        self.assertEqual(longest_loss(ROWS), 2)
        self.assertEqual(filled(rows_of(2, None, 4, None, None, 1)), rows_of(2, 3, 4, 5, 6, 1))

    def test_no_rows(self):
        self.assertEqual((filled(()), longest_loss(())), ((), 0))

    def test_longest_loss(self):
        for numbers, longest in (((1,), 0), ((1, None), 1), ((1, None, 1, None), 1), ((1, None, None, 1, None), 2),
                                 ((3, 2, 1), 0),
                                 ((1, None, 2, None, None, None), 3), ((1,) + (None,) * 50, 50)):
            self.assertEqual(longest_loss(rows_of(*numbers)), longest)
        # Losses at several branches are not counted together.
        self.assertEqual(longest_loss((((1, 1),), ((None, 1),), ((1, None),), ((None, 1),))), 1)
        self.assertEqual(longest_loss((((1,), (1,)), ((None,), (None,)), ((1,), (None,)))), 2)
        self.assertEqual(longest_loss((((), (1,)), ((), (1,)))), 0)
        self.assertEqual(longest_loss((((),), ((),))), 0)

    def test_without_losses_nothing_is_filled(self):
        rng = random.Random(593)
        for _ in range(20):
            rows = drawn_run(rng, small_net(rng), 4, 8)[1]
            self.assertEqual((filled(rows), longest_loss(rows)), (rows, 0))

    def test_they_are_those_of_a_run_in_which_the_same_is_heard(self):
        rng = random.Random(594)
        seen = {}
        for _ in range(150):
            net = small_net(rng, houses=rng.choice((1, 2, 3)))
            d, loss = rng.choice(((2, 0), (2, 1), (2, 7), (4, 3), (8, 1), (6, 3)))
            rows = drawn_lossy(rng, net, d, loss, rng.choice((1, 3, 20)))
            self.assertIs(are_lossy(net, d, rows), True)
            longest = longest_loss(rows)
            self.assertLessEqual(longest, loss)
            told = filled(rows)
            seen[longest] = seen.get(longest, 0) + 1
            past = drawn_past(rng, net, d + longest)
            self.assertIs(is_run(net, d + longest, (past, told)), True)
            states = past + shown(net, d + longest, (past, told))
            for house, rule in enumerate(net[1]):
                for at, other in enumerate(branches(rule)):
                    heard = None
                    for beat, entry in enumerate(rows):
                        if entry[house][at] is not None:
                            heard = states[len(past) + beat - entry[house][at]][other]
                        self.assertEqual(states[len(past) + beat - told[beat][house][at]][other], heard)
        self.assertGreater(len(seen), 4)

    def test_even_losses_at_all_branches(self):
        rows = (((1,), (1,)),) + (((None,), (None,)),) * 3
        told = filled(rows)
        self.assertIs(is_lateness(NET, 4, told[3]), True)
        self.assertEqual(told[3], ((4,), (4,)))
        states = ((3, 3),) * 5
        self.assertEqual(heard_in(NET, 0, states[-4]), (3,))


class SettledWithTest(unittest.TestCase):
    def refused(self, at, net):
        with self.assertRaises(Refused) as caught:
            settled_with(net, 2, 1, 0)
        self.assertEqual(caught.exception.at, at)

    def test_by_hand(self):
        self.assertEqual(settled_with(NET, 2, 2, 1), 9)
        self.assertEqual(settled_with(NET, 2, 1, 0), settled_from(NET, 2))
        self.assertEqual(settled_with(NET, 5, 4, 0), 3 + 2 * 8)
        self.assertEqual(settled_with(NET, 2, 8, 0), 7 + 2 * 9)
        self.assertEqual(settled_with(NET, 2, 1, 7), 2 * 9)

    def test_rounds_needed_of_0_and_1(self):
        # Where all tops are 0 no round is needed, where all rules are numbers one is.
        for d, e, loss in ((2, 1, 0), (2, 8, 0), (4, 3, 3), (2, 1, 7)):
            self.assertEqual(settled_with(net_of([0, 0], [("hear", 1), ("is", 5)]), d, e, loss), e - 1)
            self.assertEqual(settled_with(net_of([3, 3], [("is", 1), ("is", 9)]), d, e, loss), e - 1)
            self.assertEqual(settled_with(net_of([3, 3], [("is", 1), ("hear", 0)]), d, e, loss), e - 1 + d + e + loss - 1)

    def test_errors(self):
        self.refused(20, net_of([3], [("hear", 0)]))
        self.refused(20, net_of([3, 3], [("is", 0), ("from", 3, ("hear", 1))]))
        self.refused(1, net_of([3, 3], [("is", 0), ("row", (0, 2, 1), ("hear", 1))]))
        self.refused(0, net_of([3, 3], [("row", (0, 2, 1), ("hear", 1)), ("hear", 1)]))

    def test_it_rests_by_then(self):
        rng = random.Random(601)
        moved = 0
        for _ in range(250):
            net = one_way(rng, small_net(rng, houses=rng.choice((2, 3))))
            if not rests_always(net):
                continue
            d, e, loss = rng.choice(((2, 1, 0), (2, 2, 1), (2, 3, 2), (3, 4, 3), (5, 2, 0), (2, 1, 3)))
            beat = settled_with(net, d, e, loss)
            run = drawn_stopped_run(rng, net, d + loss, e, beat + 8, often=rng.choice((0.1, 0.5)))
            self.assertIs(is_stopped_run(net, d + loss, e, run), True)
            states = stopped_shown(net, d + loss, run)
            self.assertEqual(set(states[beat:]), {the_rest(net)})
            moved += states[0] != the_rest(net)
            # The same with news lost, in runs in which all move at all beats.
            beat = settled_with(net, d, 1, loss)
            rows = filled(drawn_lossy(rng, net, d, loss, beat + 5))
            states = shown(net, d + loss, (drawn_past(rng, net, d + loss), rows))
            self.assertEqual(set(states[beat:]), {the_rest(net)})
        self.assertGreater(moved, 40)

    def test_stops_and_losses_together(self):
        # Moves come seldom, and at them news of lossy latenesses is heard.
        rng = random.Random(602)
        for _ in range(60):
            net = one_way(rng, small_net(rng, houses=2))
            if not rests_always(net):
                continue
            d, e, loss = 2, 3, 2
            beat = settled_with(net, d, e, loss)
            rows = filled(drawn_lossy(rng, net, d, loss, beat + 6))
            beats = []
            for at, lateness in enumerate(rows):
                movers = tuple(house for house in range(2) if (at + house) % e == 0 or rng.random() < 0.2)
                beats.append((movers, lateness))
            run = (drawn_past(rng, net, d + loss), tuple(beats))
            self.assertIs(is_stopped_run(net, d + loss, e, run), True)
            self.assertEqual(set(stopped_shown(net, d + loss, run)[beat:]), {the_rest(net)})


if __name__ == "__main__":
    unittest.main()

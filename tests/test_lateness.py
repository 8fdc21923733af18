"""[14], and of [15] what a run is."""

import random
import unittest

from newsbehind.lateness import can_follow, is_lateness, is_past, is_run
from newsbehind.nets import net_of
from sampling import ODD_VALUES, drawn_lateness, drawn_net, drawn_past, drawn_run

NET = net_of([3, 5, 1], [("most", (("hear", 1), ("hear", 0))), ("hear", 2), ("is", 1)])
STATE = (3, 5, 1)
ONES = ((1, 1), (1,), ())


class PastTest(unittest.TestCase):
    def test_as_many_states_as_d(self):
        for d in (2, 5, 9):
            self.assertIs(is_past(NET, d, (STATE,) * d), True)
            for many in (0, 1, d - 1, d + 1):
                self.assertIs(is_past(NET, d, (STATE,) * many), False)

    def test_each_one_a_state(self):
        for value in ODD_VALUES + ((3, 5), (3, 5, 2), [3, 5, 1], (3, 5, True), (3, 5, 1, 0), (-1, 5, 1)):
            self.assertIs(is_past(NET, 2, (STATE, value)), False, value)
            self.assertIs(is_past(NET, 2, (value, STATE)), False, value)

    def test_other_values(self):
        for value in ODD_VALUES + ([STATE, STATE], STATE):
            self.assertIs(is_past(NET, 2, value), False, value)

    def test_drawn(self):
        rng = random.Random(1)
        for d in (2, 9):
            net = drawn_net(rng)
            self.assertIs(is_past(net, d, drawn_past(rng, net, d)), True)


class LatenessTest(unittest.TestCase):
    def test_a_number_for_each_branch(self):
        for d in (2, 9):
            for value in (ONES, ((d, d), (d,), ()), ((1, d), (2,), ())):
                self.assertIs(is_lateness(NET, d, value), True, value)

    def test_numbers_from_1_to_d(self):
        for d in (2, 5, 9):
            for late in range(-1, 12):
                self.assertIs(is_lateness(NET, d, ((1, late), (1,), ())), 1 <= late <= d)
                self.assertIs(is_lateness(NET, d, ((1, 1), (late,), ())), 1 <= late <= d)
            for late in (True, None, 1.0, "1", (1,), [1], 10 ** 400):
                self.assertIs(is_lateness(NET, d, ((1, 1), (late,), ())), False)

    def test_other_shapes(self):
        for value in (
            ((1, 1), (1,)), ((1, 1), (1,), (), ()), ((1,), (1,), ()), ((1, 1, 1), (1,), ()), ((1, 1), (), ()),
            ((1, 1), (1,), (1,)), [(1, 1), (1,), ()], ([1, 1], (1,), ()), ((1, 1), [1], ()), ((1, 1), (1,), []),
            ((1, 1), 1, ()), ((1, 1), (1,), None), (1, 1, 1), "111", ((), (1, 1), (1,)),
        ) + ODD_VALUES:
            self.assertIs(is_lateness(NET, 9, value), False, value)

    def test_drawn(self):
        rng = random.Random(2)
        for d in (2, 9):
            net = drawn_net(rng)
            self.assertIs(is_lateness(net, d, drawn_lateness(rng, net, d)), True)


class CanFollowTest(unittest.TestCase):
    def test_at_most_1_more(self):
        for before in range(1, 10):
            for later in range(1, 10):
                self.assertIs(can_follow(((before,),), ((later,),)), later <= before + 1)

    def test_each_branch_counts(self):
        self.assertIs(can_follow(((1, 3), (), (2,)), ((2, 4), (), (3,))), True)
        self.assertIs(can_follow(((1, 3), (), (2,)), ((3, 1), (), (1,))), False)
        self.assertIs(can_follow(((1, 3), (), (2,)), ((1, 5), (), (1,))), False)
        self.assertIs(can_follow(((1, 3), (), (2,)), ((1, 1), (), (4,))), False)

    def test_no_branches(self):
        self.assertIs(can_follow(((), ()), ((), ())), True)

    def test_with_2_each_may_follow_each(self):
        for before in ((1, 1), (1, 2), (2, 1), (2, 2)):
            for later in ((1, 1), (1, 2), (2, 1), (2, 2)):
                self.assertIs(can_follow((before,), (later,)), True)


class IsRunTest(unittest.TestCase):
    def test_runs(self):
        past = (STATE,) * 3
        for latenesses in ((), (ONES,), (ONES, ((2, 1), (2,), ()), ((3, 2), (3,), ())), (((3, 3), (3,), ()), ONES)):
            self.assertIs(is_run(NET, 3, (past, latenesses)), True)

    def test_other_values(self):
        past = (STATE,) * 3
        for value in ODD_VALUES + (
            [past, ()], (past,), (past, (), ()), (past[1:], ()), (past + past, ()), (list(past), ()), (past, []),
            (past, None), (past, [ONES]), (past, (ONES, None)), (past, (((4, 1), (1,), ()),)), ((), past),
            (past, (ONES, ((3, 1), (1,), ()))), (past, (ONES, ((1, 1), (3,), ()))), (past, ONES),
        ):
            self.assertIs(is_run(NET, 3, value), False, value)

    def test_the_first_lateness_is_free(self):
        self.assertIs(is_run(NET, 9, ((STATE,) * 9, (((9, 9), (9,), ()), ((9, 1), (5,), ())))), True)

    def test_drawn(self):
        rng = random.Random(3)
        for d in (2, 3, 9):
            net = drawn_net(rng, houses=3)
            run = drawn_run(rng, net, d, 30)
            self.assertIs(is_run(net, d, run), True)
            self.assertIs(is_run(net, d, (run[0], run[1] * 2)), all(
                new <= old + 1 for olds, news in zip(run[1][-1], run[1][0]) for old, new in zip(olds, news)))


if __name__ == "__main__":
    unittest.main()

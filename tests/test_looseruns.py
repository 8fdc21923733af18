"""[30]: loose runs, in which news may overtake news."""

import itertools
import random
import unittest

from newsbehind.beats import shown
from newsbehind.lots import is_sure, last_lots, lot_rounds
from newsbehind.looseruns import is_loose_run, loose_states
from newsbehind.nets import heard_in, net_of, next_state, wanted
from newsbehind.rules import branches
from sampling import ODD_VALUES, drawn_lateness, drawn_past, drawn_run, small_net

NET = net_of([3, 3], [("from", 3, ("hear", 1)), ("add", (("hear", 0), ("hear", 1)))])
LATE = ((1,), (2, 1))
PAST = ((0, 1), (2, 3))


def run_of(past=PAST, latenesses=(LATE, LATE)):
    return past, latenesses


def drawn_loose_run(rng, net, d, beats):
    return drawn_past(rng, net, d), tuple(drawn_lateness(rng, net, d) for _ in range(beats))


def slow_states(net, run):
    states = list(run[0])
    for lateness in run[1]:
        state = []
        for house, rule in enumerate(net[1]):
            heard = tuple(states[len(states) - late][other] for other, late in zip(branches(rule), lateness[house]))
            state.append(wanted(net, house, heard))
        states.append(tuple(state))
    return tuple(states[len(run[0]):])


class IsLooseRunTest(unittest.TestCase):
    def told(self, is_one, value, net=NET):
        self.assertIs(is_loose_run(net, value), is_one, value)

    def test_runs(self):
        self.told(True, run_of())
        self.told(True, run_of(latenesses=()))
        self.told(True, (((0, 0),) * 2, (((2,), (1, 2)),)))

    def test_how_many_states_a_past_has(self):
        for many in range(12):
            for late in ((1,), (1, 1)), ((many,), (1, 1)):
                self.told(2 <= many <= 9 and 1 <= late[0][0], (((0, 1),) * many, (late,)))
            self.told(False, (((0, 1),) * many, (((many + 1,), (1, 1)),)))
        self.told(False, ([(0, 1), (0, 1)], (LATE,)))
        self.told(False, (((0, 1), [0, 1]), (LATE,)))

    def test_how_many_beats(self):
        for many, is_one in ((0, True), (1, True), (60, True), (61, False), (2000, False)):
            self.told(is_one, run_of(latenesses=(LATE,) * many))
        self.told(False, run_of(latenesses=[LATE]))
        self.told(False, run_of(latenesses=None))

    def test_lateness(self):
        for d in range(2, 10):
            for late in range(-1, 12):
                self.told(1 <= late <= d, (((0, 0),) * d, (((1,), (1, 1)), ((late,), (d, 1)))))
                self.told(1 <= late <= d, (((0, 0),) * d, (((1,), (1, late)),)))
        for late in (True, None, "1", (1,), 1.0):
            self.told(False, run_of(latenesses=(((late,), (1, 1)),)))

    def test_houses_and_branches(self):
        for lateness in ((1,),), ((1,), (1, 1), ()), ((), (1, 1)), ((1, 1), (1, 1)), ((1,), (1,)), ((1,), (1, 1, 1)), ():
            self.told(False, run_of(latenesses=(lateness,)))
        for lateness in [(1,), (1, 1)], ([1], (1, 1)), ((1,), [1, 1]), None, 1, (1, (1, 1)):
            self.told(False, run_of(latenesses=(lateness,)))
        still = net_of([2], [("is", 1)])
        self.told(True, (((2,), (0,)), (((),),) * 3), still)
        self.told(False, (((2,), (0,)), (((1,),),)), still)

    def test_states_of_the_past(self):
        for state in (0, 4), (4, 0), (0, -1), (0,), (0, 0, 0), (True, 0), (0, None), [0, 0], None, ():
            self.told(False, run_of(past=(state, (0, 0))))
            self.told(False, run_of(past=((0, 0), state)))

    def test_any_value(self):
        for value in ODD_VALUES:
            self.told(False, value)
            self.told(False, (value, (LATE,)))
            self.told(value == (), (PAST, value))
            self.told(False, (PAST, (value,)))
        self.told(False, [PAST, (LATE,)])
        self.told(False, run_of() + ((),))
        self.told(False, run_of()[:1])

    def test_news_may_overtake(self):
        past = ((0, 0),) * 9
        self.told(True, (past, (((1,), (1, 1)), ((9,), (1, 1)), ((1,), (9, 9)))))
        self.told(True, (past, (((1,), (1, 1)), ((3,), (1, 3)))))


class LooseStatesTest(unittest.TestCase):
    def test_by_hand(self):
        # Beat 0 hears the newest of house 1 (3) at both, 0 of house 0; beat 1 hears back over that to beat -1.
        run = (((0, 1), (2, 3)), (((1,), (2, 1)), ((2,), (2, 2)), ((1,), (1, 2))))
        self.assertEqual(loose_states(NET, run), ((0, 3), (0, 3), (0, 3)))
        net = net_of([9], [("add", (("hear", 0), ("is", 1)))])
        run = (((5,), (0,), (3,)), (((1,),), ((3,),), ((1,),), ((3,),), ((2,),)))
        self.assertEqual(loose_states(net, run), ((4,), (1,), (2,), (5,), (3,)))

    def test_no_beats(self):
        self.assertEqual(loose_states(NET, (PAST, ())), ())

    def test_as_told_branch_by_branch(self):
        rng = random.Random(301)
        for _ in range(200):
            net = small_net(rng)
            run = drawn_loose_run(rng, net, rng.choice((2, 3, 9)), rng.choice((1, 5, 12)))
            self.assertIs(is_loose_run(net, run), True)
            self.assertEqual(loose_states(net, run), slow_states(net, run))

    def test_runs_of_chapter_5_are_loose_runs(self):
        rng = random.Random(302)
        for _ in range(60):
            net = small_net(rng)
            d = rng.choice((2, 3, 9))
            run = drawn_run(rng, net, d, 9)
            self.assertIs(is_loose_run(net, run), True)
            self.assertEqual(loose_states(net, run), shown(net, d, run))

    def test_even_news(self):
        states = loose_states(NET, (((1, 2), (3, 0)), (((1,), (1, 1)),) * 3))
        self.assertEqual(states[0], next_state(NET, (3, 0)))
        self.assertEqual(states[1], next_state(NET, states[0]))
        self.assertEqual(heard_in(NET, 1, (3, 0)), (3, 0))

    def test_each_worth_is_of_the_lot_of_its_round(self):
        rng = random.Random(303)
        sure = 0
        for _ in range(200):
            net = small_net(rng, heard=4)
            rounds = lot_rounds(net)
            d = rng.choice((2, 3, 4))
            states = loose_states(net, drawn_loose_run(rng, net, d, 24))
            for beat, state in enumerate(states):
                lots = rounds[min(beat // d + 1, len(rounds) - 1)]
                self.assertTrue(all(worth in lot for worth, lot in zip(state, lots)))
            if is_sure(net):
                sure += 1
                rest = tuple(lot[0] for lot in last_lots(net))
                self.assertEqual(set(states[d * (max(len(rounds) - 1, 1) - 1):]) - {rest}, set())
        self.assertGreater(sure, 40)

    def test_all_that_the_next_lots_hold_can_show(self):
        # So the round that the point tells is not one too late: at beat 0 there is no tighter one.
        net = net_of([2, 2], [("from", 2, ("hear", 1)), ("hear", 0)])
        seen = set()
        for past in itertools.product(itertools.product(range(3), repeat=2), repeat=2):
            seen |= set(loose_states(net, (past, (((1,), (2,)),))))
        self.assertEqual(seen, set(itertools.product(*lot_rounds(net)[0])))


if __name__ == "__main__":
    unittest.main()

"""[37] and [38]: late runs of table nets, and the runs of swings."""

import random
import unittest

from newsbehind.pricing import are_swinging, priced
from newsbehind.tablenets import table_branches, table_net_of
from newsbehind.tablerests import some_rest
from newsbehind.tableruns import is_table_run, swing_run, table_states
from sampling import ODD_VALUES
from tables import ODD_RATIOS, drawn_table_net, drawn_table_run, great_table_net, slow_states, value_of

NET = table_net_of([[0, (1, 2)], [-1, (1, 4)]], [1, 0])
LATE = ((1,), (2, 1))
ZERO = ((0, 1), (0, 1))
PAST = (((1, 1), (0, 1)), ((-1, 2), (4, 1)))


class IsTableRunTest(unittest.TestCase):
    def told(self, is_one, value, net=NET):
        self.assertIs(is_table_run(net, value), is_one, value)

    def test_runs(self):
        self.told(True, (PAST, (LATE, LATE)))
        self.told(True, (PAST, ()))
        self.told(True, (PAST, (((2,), (2, 2)), ((1,), (1, 1)), ((2,), (2, 2)))))

    def test_how_many_states_a_past_has(self):
        for many in range(12):
            self.told(2 <= many <= 9, ((ZERO,) * many, (((1,), (1, 1)),)))
            self.told(2 <= many <= 9, ((ZERO,) * many, ((((many,), (many, 1))),)))
            self.told(False, ((ZERO,) * many, (((many + 1,), (1, 1)),)))

    def test_how_many_beats(self):
        for many, is_one in ((0, True), (1, True), (60, True), (61, False)):
            self.told(is_one, (PAST, (LATE,) * many))
        self.told(False, (PAST, [LATE]))

    def test_a_lateness_that_grows_by_more_than_1(self):
        past = (ZERO,) * 9
        for one in range(1, 10):
            for other in range(1, 10):
                self.told(other <= one + 1, (past, (((one,), (1, 1)), ((other,), (1, 1)))))
                self.told(other <= one + 1, (past, (((1,), (1, one)), ((1,), (1, other)), ((1,), (1, 1)))))
        self.told(False, (past, (((1,), (1, 1)), ((2,), (2, 2)), ((3,), (3, 4)))))
        self.told(True, (past, (((1,), (1, 1)), ((2,), (2, 2)), ((3,), (3, 3)))))

    def test_lateness(self):
        for late in (0, -1, 3, True, None, "1", (1,), 1.0):
            self.told(False, (PAST, (((late,), (1, 1)),)))
            self.told(False, (PAST, (LATE, ((1,), (1, late)))))

    def test_houses_and_branches(self):
        # House 0 hears but one house, as its own entry is 0.
        for lateness in ((1,),), ((1,), (1, 1), ()), ((), (1, 1)), ((1, 1), (1, 1)), ((1,), (1,)), ((1,), (1, 1, 1)), ():
            self.told(False, (PAST, (lateness,)))
        for lateness in [(1,), (1, 1)], ([1], (1, 1)), ((1,), [1, 1]), None, 1, (1, (1, 1)):
            self.told(False, (PAST, (lateness,)))
        still = table_net_of([[0]], [1])
        self.told(True, ((((2, 3),),) * 2, (((),),) * 3), still)
        self.told(False, ((((2, 3),),) * 2, (((1,),),)), still)

    def test_states_of_the_past(self):
        for ratio in ODD_RATIOS:
            self.told(False, ((ZERO, ((0, 1), ratio)), (LATE,)))
            self.told(False, (((ratio, (0, 1)), ZERO), (LATE,)))
        for state in ((0, 1),), ZERO + ((0, 1),), (), [(0, 1), (0, 1)], None, (0, 1), 0:
            self.told(False, ((state, ZERO), (LATE,)))
            self.told(False, ((ZERO, state), (LATE,)))
        self.told(False, ([ZERO, ZERO], (LATE,)))
        self.told(True, ((((10 ** 399, 7), (-1, 10 ** 399)), ZERO), (LATE,)))

    def test_any_value(self):
        for value in ODD_VALUES:
            self.told(False, value)
            self.told(False, (value, (LATE,)))
            self.told(value == (), (PAST, value))
            self.told(False, (PAST, (value,)))
        self.told(False, [PAST, (LATE,)])
        self.told(False, (PAST, (LATE,), ()))
        self.told(False, (PAST,))


class TableStatesTest(unittest.TestCase):
    def test_by_hand(self):
        # 1 + 4/2 = 3; -1 + 4/4 = 0; then 1 + 4/2 = 3 of beat -1; 1/2 + 0; then 1 + 1/4; -3 + 1/8.
        run = (PAST, (((1,), (2, 1)), ((2,), (2, 1)), ((1,), (2, 1))))
        self.assertEqual(table_states(NET, run), (((3, 1), (0, 1)), ((3, 1), (1, 2)), ((5, 4), (-23, 8))))
        self.assertEqual(table_states(NET, (PAST, ())), ())
        still = table_net_of([[0]], [(5, 3)])
        self.assertEqual(table_states(still, ((((1, 1),),) * 2, (((),),) * 2)), (((5, 3),), ((5, 3),)))

    def test_as_pythons_own(self):
        rng = random.Random(371)
        for _ in range(150):
            net = drawn_table_net(rng, most=rng.choice((2, 999)), dens=(1, 2, 3, 7))
            run = drawn_table_run(rng, net, rng.choice((2, 3, 9)), rng.choice((0, 1, 12)))
            self.assertIs(is_table_run(net, run), True)
            self.assertEqual(table_states(net, run), slow_states(net, run))

    def test_a_rest_stays(self):
        rng = random.Random(372)
        for _ in range(60):
            net = drawn_table_net(rng, most=2)
            rest = some_rest(net)
            if rest is not None:
                run = drawn_table_run(rng, net, 3, 9)
                self.assertEqual(set(table_states(net, ((rest,) * 3, run[1]))), {rest})

    def test_great_nets(self):
        rng = random.Random(373)
        net = great_table_net(rng, most=1000)
        run = drawn_table_run(rng, net, 9, 60, most=10 ** 6)
        self.assertIs(is_table_run(net, run), True)
        self.assertTrue(table_states(net, run)[:6] == slow_states(net, (run[0], run[1][:6])))
        self.assertEqual(len(table_states(net, run)), 60)


class SwingRunTest(unittest.TestCase):
    def holds(self, net, swing, beats):
        """Whether there is a run; it is looked at beat by beat."""
        run = swing_run(net, swing, beats)
        rest = some_rest(net)
        self.assertEqual(run is None, rest is None)
        if run is None:
            return False
        self.assertIs(is_table_run(net, run), True)
        rest = [value_of(worth) for worth in rest]
        self.assertEqual([[value_of(worth) for worth in state] for state in run[0]],
                         [[worth + sign * number for worth, number in zip(rest, swing)] for sign in (1, -1)])
        self.assertEqual((len(run[0]), len(run[1])), (2, beats))
        for lateness in run[1]:
            for house, row in enumerate(lateness):
                entries = [net[0][house][other] for other in table_branches(net, house)]
                self.assertEqual(row, tuple(2 if a > 0 else 1 for a, _ in entries))
        for beat, state in enumerate(table_states(net, run)):
            for worth, other, number in zip(state, rest, swing):
                above = value_of(worth) - other
                self.assertTrue(above >= number if beat % 2 == 0 else above <= -number)
        return True

    def test_by_hand(self):
        net = table_net_of([[2]], [0])
        self.assertEqual(swing_run(net, (1,), 3), ((((1, 1),), ((-1, 1),)), (((2,),),) * 3))
        self.assertEqual(table_states(net, swing_run(net, (1,), 3)), (((2, 1),), ((-2, 1),), ((4, 1),)))
        net = table_net_of([[0, -1], [1, 0]], [1, 0])
        self.assertEqual(swing_run(net, (1, 1), 1), ((((3, 2), (3, 2)), ((-1, 2), (-1, 2))), (((1,), (2,)),)))
        self.assertIs(self.holds(net, (1, 1), 60), True)
        self.assertIs(self.holds(net, (1, 1), 0), True)

    def test_nets_without_a_rest(self):
        for net, swing in ((table_net_of([[1]], [1]), (1,)), (table_net_of([[0, 1], [1, 0]], [1, 1]), (3, 3))):
            self.assertIs(are_swinging(net, swing), True)
            self.assertIs(swing_run(net, swing, 5), None)

    def test_nets_with_many_rests(self):
        for net, swing in ((table_net_of([[1]], [0]), (4,)), (table_net_of([[0, 1], [1, 0]], [1, -1]), (1, 1))):
            self.assertIs(are_swinging(net, swing), True)
            self.assertIs(self.holds(net, swing, 8), True)

    def test_drawn_swings(self):
        rng = random.Random(374)
        seen = [0, 0]
        while min(seen) < 4 or seen[1] < 100:
            net = drawn_table_net(rng, most=rng.choice((1, 1, 3)), dens=(1, 1, 2))
            kind, swing = priced(net)
            if kind == "swing":
                seen[self.holds(net, swing, 10)] += 1


if __name__ == "__main__":
    unittest.main()

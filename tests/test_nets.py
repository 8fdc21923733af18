"""[6], [7]: nets, states, and what houses want."""

import random
import unittest

from newsbehind.errors import InvalidNet
from newsbehind.nets import heard_in, is_net, is_rest, is_state, net_of, next_state, wanted
from newsbehind.rules import branches
from sampling import ODD_VALUES, drawn_net, drawn_state, greatest_net, greatest_rule, within
from test_rules import slowly_told

ZERO = ("is", 0)
NET = ((3, 3), (("from", 3, ("hear", 1)), ("most", (("is", 1), ("hear", 0)))))


class IsNetTest(unittest.TestCase):
    def test_nets(self):
        for net in (NET, ((0,), (ZERO,)), ((1000,) * 20, (("hear", 19),) * 20), greatest_net()):
            self.assertIs(is_net(net), True)

    def test_other_values(self):
        for value in ODD_VALUES:
            self.assertIs(is_net(value), False, value)

    def test_wrong_parts(self):
        tops, rules = NET
        for value in (
            list(NET), (list(tops), rules), (tops, list(rules)), NET + ((),), NET[:1], (rules, tops), (tops, rules[0]),
            (tops[:1], rules), (tops, rules[:1]), (tops + (1,), rules), (tops, rules + (ZERO,)), ((), ()),
            ((3,) * 21, (ZERO,) * 21), ((3, 1001), rules), ((3, -1), rules), ((3, True), rules), ((3, None), rules),
            (tops, (ZERO, ("hear", 2))), (tops, (("hear", 2), ZERO)), (tops, (ZERO, ["is", 0])), (tops, (ZERO, None)),
            (tops, (ZERO, within("from", 9))), (((3, 3),), rules), ("33", rules), ({3: 3}, rules),
        ):
            self.assertIs(is_net(value), False, value)

    def test_who_may_be_heard(self):
        self.assertIs(is_net(((1,) * 20, (("hear", 19),) * 20)), True)
        self.assertIs(is_net(((1,) * 20, (ZERO,) * 19 + (("hear", 20),))), False)
        self.assertIs(is_net(((1,), (("hear", 1),))), False)


class IsStateTest(unittest.TestCase):
    def test_states(self):
        for state in ((0, 0), (3, 3), (0, 3), (2, 1)):
            self.assertIs(is_state(NET, state), True)
        self.assertIs(is_state(((0,), (ZERO,)), (0,)), True)

    def test_other_values(self):
        for value in ODD_VALUES:
            self.assertIs(is_state(NET, value), False, value)
        for value in ((4, 0), (0, 4), (-1, 0), (0, True), (False, 0), [0, 0], (0,), (0, 0, 0), (0, None), (0, 1.0)):
            self.assertIs(is_state(NET, value), False, value)


class NetOfTest(unittest.TestCase):
    def refused(self, at, tops, rules):
        with self.assertRaises(InvalidNet) as caught:
            net_of(tops, rules)
        self.assertEqual(caught.exception.at, at, (tops, rules))

    def test_lists_and_tuples(self):
        tops, rules = NET
        for given in ((tops, rules), (list(tops), rules), (tops, list(rules)), (list(tops), list(rules))):
            net = net_of(*given)
            self.assertEqual(net, NET)
            self.assertIs(is_net(net), True)
        self.assertEqual(net_of(tops=tops, rules=rules), NET)

    def test_later_changes_have_no_effect(self):
        tops, rules = list(NET[0]), list(NET[1])
        net = net_of(tops, rules)
        tops[0] = 9
        rules.append(ZERO)
        self.assertEqual(net, NET)

    def test_other_tops(self):
        for tops in ODD_VALUES:
            if tops not in ([1], (1,)):
                self.refused(0, tops, [ZERO])
                self.refused(0, tops, None)
        for tops in ([], [1001], [-1], [True], [None], [1.0], ["1"], [1] * 21, "1", {1: 1}, {1}, [[1]], iter([1])):
            self.refused(0, tops, [ZERO])

    def test_other_rules(self):
        for rules in ODD_VALUES:
            self.refused(1, [1], rules)
        for rules in ([], [ZERO] * 2, [["is", 0]], [("hear", 1)], [None], ZERO, {0: ZERO}, [within("from", 9)],
                      [("least", [ZERO])], [("add", (("hear", 0),) * 13)], iter([ZERO])):
            self.refused(1, [1], rules)

    def test_unlike_lengths(self):
        self.refused(1, [1, 1], [ZERO])
        self.refused(1, [1], [ZERO, ZERO])
        self.refused(1, [1] * 20, [ZERO] * 21)
        self.refused(0, [1] * 21, [ZERO] * 21)
        self.refused(0, [], [])

    def test_tops_are_asked_first(self):
        self.refused(0, [1001], [None])
        self.refused(0, None, None)
        self.refused(1, [1000], None)

    def test_who_may_be_heard(self):
        self.assertEqual(net_of([1] * 20, [("hear", 19)] * 20)[1][0], ("hear", 19))
        self.refused(1, [1] * 20, [("hear", 20)] * 20)
        self.refused(1, [1], [("hear", 1)])
        self.refused(1, [1, 1], [ZERO, ("most", (("hear", 0), ("from", 1, ("hear", 2))))])

    def test_20_houses(self):
        self.assertEqual(net_of([1] * 20, [greatest_rule()] * 20), ((1,) * 20, (greatest_rule(),) * 20))


class WantedTest(unittest.TestCase):
    def test_the_top_cuts(self):
        net = net_of([3, 9], [("add", (("hear", 1), ("hear", 1))), ("times", 2, ("hear", 0))])
        self.assertEqual([wanted(net, 0, heard) for heard in ((1, 1), (1, 2), (2, 2), (9, 9))], [2, 3, 3, 3])
        self.assertEqual([wanted(net, 1, (heard,)) for heard in (0, 4, 5)], [0, 8, 9])
        self.assertEqual(wanted(net_of([0], [("is", 1)]), 0, ()), 0)

    def test_heard_in(self):
        net = net_of([9] * 3, [("add", (("hear", 2), ("hear", 0), ("hear", 2))), ZERO, ("hear", 1)])
        self.assertEqual([heard_in(net, house, (4, 5, 6)) for house in range(3)], [(6, 4, 6), (), (5,)])

    def test_all_hear_one_state(self):
        net = net_of([9, 9], [("hear", 1), ("hear", 0)])
        self.assertEqual(next_state(net, (1, 2)), (2, 1))
        self.assertIs(is_rest(net, (1, 2)), False)
        self.assertIs(is_rest(net, (2, 2)), True)

    def test_a_rest_may_hang_on_the_top(self):
        net = net_of([3], [("add", (("hear", 0), ("is", 1)))])
        self.assertEqual([is_rest(net, (worth,)) for worth in range(4)], [False, False, False, True])

    def test_as_reckoned_another_way(self):
        rng = random.Random(3)
        for _ in range(60):
            net = drawn_net(rng)
            state = drawn_state(rng, net)
            behind = []
            for top, rule in zip(*net):
                behind.append(min(top, slowly_told(rule, [state[other] for other in branches(rule)])))
            self.assertEqual(next_state(net, state), tuple(behind))
            self.assertIs(is_state(net, next_state(net, state)), True)
            self.assertIs(is_rest(net, state), state == tuple(behind))


if __name__ == "__main__":
    unittest.main()

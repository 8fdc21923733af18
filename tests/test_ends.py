"""[23]: ends, round by round; and the error of chapter 7."""

import itertools
import random
import unittest

from newsbehind.ends import ends_behind, first_ends, last_ends, next_ends, rounds_needed
from newsbehind.errors import Refused
from newsbehind.nets import is_state, net_of, wanted
from newsbehind.resting import ends_at, resting_houses, rests_always, settled_from, the_rest
from newsbehind.restpapers import is_rest_paper, rest_paper
from newsbehind.rules import branches
from newsbehind.toggles import is_toggle, toggle_ends, toggle_run
from newsbehind.ways import are_one_way, ways
from sampling import drawn_ends, one_way, small_net, two_sided_net

BOTH = ("row", (1, 2, 0), ("hear", 0))
EVEN = net_of([3, 3], [("from", 3, ("hear", 1)), ("most", (("is", 1), ("hear", 0)))])


def slow_next(net, ends):
    """The next ends, each want looked for among all rows between both ends."""
    lows, highs = [], []
    for house, rule in enumerate(net[1]):
        rows = itertools.product(*[range(ends[0][other], ends[1][other] + 1) for other in branches(rule)])
        wants = [wanted(net, house, row) for row in rows]
        lows.append(min(wants))
        highs.append(max(wants))
    return tuple(lows), tuple(highs)


def slow_rounds(net):
    rounds = [((0,) * len(net[0]), net[0])]
    while slow_next(net, rounds[-1]) != rounds[-1]:
        rounds.append(slow_next(net, rounds[-1]))
    return rounds


def lie_within(ends, others):
    return all(map(int.__ge__, ends[0], others[0])) and all(map(int.__le__, ends[1], others[1]))


class EndsTest(unittest.TestCase):
    def test_first_ends(self):
        self.assertEqual(first_ends(EVEN), ((0, 0), (3, 3)))
        self.assertEqual(first_ends(net_of([7, 0, 2], [("is", 9)] * 3)), ((0, 0, 0), (7, 0, 2)))

    def test_next_ends(self):
        self.assertEqual(next_ends(EVEN, ((0, 0), (3, 3))), ((0, 1), (3, 3)))
        self.assertEqual(next_ends(EVEN, ((0, 1), (3, 3))), ((0, 1), (2, 3)))
        self.assertEqual(next_ends(EVEN, ((2, 0), (2, 3))), ((0, 2), (3, 2)))
        self.assertEqual(next_ends(EVEN, ((1, 2), (1, 2))), ((1, 1), (1, 1)))

    def test_next_ends_by_each_word(self):
        rule = ("add", (("hear", 0), ("from", 9, ("hear", 2)), ("times", 0, ("hear", 1)), ("bar", 3, 2, 1, ("hear", 0))))
        net = net_of([99, 9, 9], [rule, ("from", 4, ("hear", 1)), ("hear", 2)])
        self.assertEqual(next_ends(net, ((1, 2, 3), (4, 5, 6))), ((5, 0, 3), (12, 2, 6)))

    def test_the_top_cuts(self):
        net = net_of([2, 5], [("times", 3, ("hear", 1)), ("is", 900)])
        self.assertEqual(next_ends(net, ((0, 0), (2, 5))), ((0, 5), (2, 5)))
        self.assertEqual(last_ends(net), ((2, 5), (2, 5)))

    def test_round_by_round(self):
        rounds = [((0, 0), (3, 3)), ((0, 1), (3, 3)), ((0, 1), (2, 3)), ((0, 1), (2, 2)), ((1, 1), (2, 2))]
        self.assertEqual([ends_behind(EVEN, many) for many in range(5)], rounds)
        for many in (5, 6, 100, 10 ** 400):
            self.assertEqual(ends_behind(EVEN, many), rounds[-1])
        self.assertEqual((last_ends(EVEN), rounds_needed(EVEN)), (rounds[-1], 4))

    def test_last_ends_that_meet(self):
        net = net_of([3, 3], [("part", 2, ("hear", 1)), ("clip", 1, 2, ("hear", 0))])
        self.assertEqual((last_ends(net), rounds_needed(net)), (((0, 1), (0, 1)), 3))

    def test_no_branches(self):
        net = net_of([5, 6], [("is", 4), ("is", 1000)])
        self.assertEqual((last_ends(net), rounds_needed(net)), (((4, 6), (4, 6)), 1))

    def test_no_rounds(self):
        for net in (net_of([0, 0], [("is", 7), ("hear", 0)]), net_of([9], [("hear", 0)]),
                    net_of([4, 4], [("hear", 1), ("from", 4, ("hear", 0))])):
            self.assertEqual((last_ends(net), rounds_needed(net)), (first_ends(net), 0))

    def test_many_rounds(self):
        for top in (1, 2, 1000):
            up = net_of([top], [("add", (("hear", 0), ("is", 1)))])
            self.assertEqual((last_ends(up), rounds_needed(up)), (((top,), (top,)), top))
            down = net_of([top], [("from", 1000, ("add", (("from", 1000, ("hear", 0)), ("is", 1))))])
            self.assertEqual((last_ends(down), rounds_needed(down)), (((0,), (0,)), top))
        two = net_of([1000, 1000], [("add", (("hear", 1), ("is", 1))), ("hear", 0)])
        self.assertEqual((last_ends(two), rounds_needed(two)), (((1000, 1000),) * 2, 2000))
        self.assertEqual(ends_behind(two, 1999), ((1000, 999), (1000, 1000)))
        self.assertEqual(ends_behind(two, 1000), ((500, 500), (1000, 1000)))

    def test_as_all_rows_tell(self):
        rng = random.Random(91)
        met = [0, 0]
        for _ in range(200):
            net = one_way(rng, small_net(rng, heard=4)) if rng.random() < 0.5 else two_sided_net(rng)[0]
            rounds = slow_rounds(net)
            self.assertEqual([ends_behind(net, many) for many in range(len(rounds) + 2)], rounds + rounds[-1:] * 2)
            self.assertEqual((last_ends(net), rounds_needed(net)), (rounds[-1], len(rounds) - 1))
            self.assertEqual(first_ends(net), rounds[0])
            self.assertLessEqual(rounds_needed(net), sum(net[0]))
            met[rounds[-1][0] == rounds[-1][1]] += 1
            for _ in range(4):
                ends = drawn_ends(rng, net)
                self.assertEqual(next_ends(net, ends), slow_next(net, ends))
        self.assertGreater(min(met), 40)

    def test_next_ends_are_ends_and_keep_within(self):
        rng = random.Random(92)
        for _ in range(150):
            net = one_way(rng, small_net(rng))
            ends = drawn_ends(rng, net)
            wider = (tuple(rng.randint(0, low) for low in ends[0]),
                     tuple(rng.randint(high, top) for high, top in zip(ends[1], net[0])))
            behind = next_ends(net, ends)
            self.assertTrue(is_state(net, behind[0]) and is_state(net, behind[1]))
            self.assertTrue(lie_within(behind, (behind[0], net[0])) and all(map(int.__le__, *behind)))
            self.assertTrue(lie_within(behind, next_ends(net, wider)))


class BothTest(unittest.TestCase):
    def asked(self, net):
        """All functions of the chapter, whatever else is passed."""
        ends = (net[0], net[0])
        return (
            lambda: first_ends(net), lambda: next_ends(net, ends), lambda: ends_behind(net, 0), lambda: ends_behind(net, 9),
            lambda: last_ends(net), lambda: rounds_needed(net), lambda: rests_always(net), lambda: the_rest(net),
            lambda: resting_houses(net), lambda: ends_at(net, 2, 0), lambda: settled_from(net, 2), lambda: rest_paper(net),
            lambda: is_rest_paper(net, None), lambda: is_rest_paper(net, (ends,)), lambda: is_toggle(net, None),
            lambda: is_toggle(net, ends), lambda: toggle_ends(net), lambda: toggle_run(net, 2, ends, 0),
        )

    def refused(self, house, net):
        for ask in self.asked(net):
            with self.assertRaises(Refused) as caught:
                ask()
            self.assertEqual(caught.exception.at, house)

    def test_the_least_house_with_such_a_branch(self):
        still = ("is", 1)
        self.refused(0, net_of([9], [BOTH]))
        self.refused(0, net_of([9, 9, 9], [BOTH, still, BOTH]))
        self.refused(1, net_of([9, 9, 9], [still, BOTH, BOTH]))
        self.refused(2, net_of([9, 9, 9], [still, still, ("add", (("hear", 1), BOTH))]))
        self.refused(19, net_of([9] * 20, [still] * 19 + [BOTH]))

    def test_the_words_of_ways_count(self):
        # The house never goes both ways, but its branch has the word.
        self.refused(0, net_of([9, 1], [("row", (5, 9, 5), ("times", 2, ("hear", 1))), ("is", 0)]))
        net = net_of([9, 1], [("row", (5, 9, 5), ("hear", 1)), ("is", 0)])
        self.assertEqual(last_ends(net), ((5, 0), (5, 0)))

    def test_drawn_nets(self):
        rng = random.Random(93)
        seen = set()
        for _ in range(100):
            net = small_net(rng)
            if are_one_way(net):
                for ask in self.asked(net)[:9]:
                    ask()
            else:
                house = min(house for house in range(3) if "both" in ways(net, house))
                self.refused(house, net)
                seen.add(house)
        self.assertEqual(seen, {0, 1, 2})


if __name__ == "__main__":
    unittest.main()

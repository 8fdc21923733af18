"""[66] and [68]: what is sure whoever sets the inputs."""

import random
import unittest

from newsbehind.beats import shows_next
from newsbehind.ends import first_ends, next_ends
from newsbehind.errors import Refused
from newsbehind.nets import fixed, net_of
from newsbehind.resting import resting_houses
from newsbehind.restpapers import is_rest_paper, rest_paper
from newsbehind.settings import resting_settings, settings
from newsbehind.sureworths import all_sure, is_sure_paper, sure_ends, sure_houses
from newsbehind.ways import ways
from sampling import ODD_VALUES, drawn_lateness, drawn_past, one_way, small_net
from test_settings import BOTH, NET, some_inputs
from test_traps import within

CALM = fixed(NET, 3, 2)
CHAIN = net_of([3, 3, 3], [("hear", 0), ("clip", 1, 2, ("hear", 0)), ("bar", 1, 0, 3, ("hear", 1))])


def with_inputs(net, inputs, ends):
    """The ends with 0 and the tops for the inputs."""
    lows = tuple(0 if house in inputs else low for house, low in enumerate(ends[0]))
    highs = tuple(net[0][house] if house in inputs else high for house, high in enumerate(ends[1]))
    return lows, highs


def slow_rounds(net, inputs):
    rounds = [first_ends(net)]
    while True:
        later = with_inputs(net, inputs, next_ends(net, rounds[-1]))
        if later == rounds[-1]:
            return rounds
        rounds.append(later)


def slow_is_paper(net, inputs, paper):
    """Of ends, one or more."""
    if not within(first_ends(net), paper[0]):
        return False
    if not all(within(with_inputs(net, inputs, next_ends(net, one)), other) for one, other in zip(paper, paper[1:])):
        return False
    return all(low == high for house, (low, high) in enumerate(zip(*paper[-1])) if house not in inputs)


class SureEndsTest(unittest.TestCase):
    def test_by_hand(self):
        self.assertEqual(sure_ends(NET, (0,)), ((0, 0, 0, 0), (1, 0, 0, 3)))
        self.assertEqual(sure_ends(NET, (0, 1)), ((0, 0, 0, 0), (1, 1, 3, 3)))
        self.assertEqual(sure_houses(CALM, (0, 1)), (3,))
        self.assertEqual(sure_houses(CALM, (0,)), (1, 2, 3))
        self.assertIs(all_sure(CALM, (0,)), True)

    def test_a_chain(self):
        self.assertEqual(slow_rounds(CHAIN, (0,)), [
            ((0, 0, 0), (3, 3, 3)), ((0, 1, 0), (3, 2, 3)), ((0, 1, 3), (3, 2, 3))])
        self.assertEqual(sure_ends(CHAIN, (0,)), ((0, 1, 3), (3, 2, 3)))
        self.assertEqual((sure_houses(CHAIN, (0,)), all_sure(CHAIN, (0,))), ((2,), False))
        self.assertEqual((sure_houses(CHAIN, (0, 1)), all_sure(CHAIN, (0, 1))), ((), False))
        self.assertEqual((sure_houses(CHAIN, (1,)), all_sure(CHAIN, (1,))), ((), False))
        self.assertEqual((sure_houses(CHAIN, (0, 1, 2)), all_sure(CHAIN, (0, 1, 2))), ((), True))

    def test_inputs_whose_rules_would_keep_them_lower(self):
        net = net_of([3, 3, 3], [("is", 1), ("hear", 0), ("bar", 2, 0, 1, ("hear", 0))])
        self.assertEqual(sure_ends(net, ()), ((1, 1, 0), (1, 1, 0)))
        self.assertEqual(sure_ends(net, (0,)), ((0, 0, 0), (3, 3, 1)))
        self.assertEqual(sure_ends(net, (1,)), ((1, 0, 0), (1, 3, 0)))
        self.assertEqual((sure_houses(net, (1,)), all_sure(net, (1,)), all_sure(net, (0,))), ((0, 2), True, False))

    def test_just_one_lacking(self):
        net = net_of([3, 3, 3], [("is", 0), ("is", 2), ("least", (("hear", 0), ("hear", 1)))])
        self.assertIs(all_sure(net, ()), True)
        self.assertIs(all_sure(net, (1,)), True)
        self.assertIs(all_sure(net, (0,)), False)
        self.assertIs(all_sure(net, (0, 2)), True)

    def test_round_by_round(self):
        rng = random.Random(681)
        for _ in range(200):
            net = one_way(rng, small_net(rng, houses=rng.choice((1, 2, 3, 4))))
            inputs = some_inputs(rng, net)
            lows, highs = slow_rounds(net, inputs)[-1]
            self.assertEqual(sure_ends(net, inputs), (lows, highs))
            sure = tuple(house for house in range(len(lows)) if house not in inputs and lows[house] == highs[house])
            self.assertEqual(sure_houses(net, inputs), sure)
            self.assertIs(all_sure(net, inputs), len(sure) + len(inputs) == len(lows))

    def test_no_inputs(self):
        rng = random.Random(682)
        for _ in range(60):
            net = one_way(rng, small_net(rng))
            self.assertEqual(sure_houses(net, ()), resting_houses(net))

    def test_if_all_sure_each_setting_rests(self):
        rng = random.Random(683)
        sure = 0
        for _ in range(150):
            net = one_way(rng, small_net(rng, houses=rng.choice((2, 3))))
            inputs = some_inputs(rng, net)
            if all_sure(net, inputs):
                sure += 1
                self.assertEqual(resting_settings(net, inputs), settings(net, inputs))
        self.assertGreater(sure, 30)

    def run_with(self, rng, net, inputs, d, past, worths):
        """What is shown if the inputs show these worths, beat by beat."""
        states = list(past)
        lateness = None
        for shown in worths:
            lateness = drawn_lateness(rng, net, d, lateness)
            state = list(shows_next(net, tuple(states[-d:]), lateness))
            for house in inputs:
                state[house] = shown[house]
            states.append(tuple(state))
        return states[d:]

    def test_they_stay_whatever_the_inputs_show(self):
        rng = random.Random(684)
        for _ in range(60):
            net = one_way(rng, small_net(rng, houses=3))
            inputs = some_inputs(rng, net)
            d = rng.choice((2, 3))
            worths = [tuple(rng.randint(0, top) for top in net[0]) for _ in range(d * 14)]
            states = self.run_with(rng, net, inputs, d, drawn_past(rng, net, d), worths)
            lows, highs = sure_ends(net, inputs)
            for state in states[d * 12:]:
                self.assertTrue(all(low <= worth <= high for low, worth, high in zip(lows, state, highs)))
                for house in sure_houses(net, inputs):
                    self.assertEqual(state[house], lows[house])

    def test_the_others_toggle_if_the_inputs_go_from_0_to_their_tops(self):
        rng = random.Random(685)
        for _ in range(60):
            net = one_way(rng, small_net(rng, houses=3))
            inputs = some_inputs(rng, net)
            ends = sure_ends(net, inputs)
            # As in [27]: what falls hears the last beat, all else the one ahead of it.
            lateness = tuple(tuple(1 if word == "falls" else 2 for word in ways(net, house)) for house in range(3))
            states = list(ends)
            for beat in range(6):
                state = list(shows_next(net, tuple(states[-2:]), lateness))
                for house in inputs:
                    state[house] = (0, net[0][house])[beat % 2]
                states.append(tuple(state))
            self.assertEqual(states, list(ends) * 4)


class SurePaperTest(unittest.TestCase):
    def told(self, is_one, inputs, value, net=CALM):
        self.assertIs(is_sure_paper(net, inputs, value), is_one, value)

    def test_by_hand(self):
        first = first_ends(CALM)
        paper = (first, ((0, 0, 0, 2), (1, 0, 3, 2)), ((0, 0, 0, 2), (1, 0, 0, 2)))
        self.assertEqual(tuple(slow_rounds(CALM, (0,))), paper)
        self.told(True, (0,), paper)
        self.told(True, (0,), paper[:1] + paper)
        self.told(True, (0,), (first, ((0, 0, 0, 0), (1, 0, 3, 3))) + paper[1:])
        # An entry may be wider than it must be, but none may leave out what comes next.
        self.told(False, (0,), paper[:2])
        self.told(False, (0,), paper[1:])
        self.told(False, (0,), (paper[0], paper[2]))
        self.told(False, (0,), paper[::-1])
        self.told(False, (0, 1), paper)
        self.told(False, (0,), ())
        self.told(True, (0, 1, 2, 3), (first,))
        self.told(False, (0, 1, 2), (first,))

    def test_inputs_narrower_than_0_and_the_top(self):
        paper = tuple(slow_rounds(CALM, (0,)))
        for low, high in ((0, 0), (1, 1)):
            for at in range(3):
                lows, highs = paper[at]
                narrow = ((low,) + lows[1:], (high,) + highs[1:])
                self.told(False, (0,), paper[:at] + (narrow,) + paper[at + 1:])
        # Without inputs such ends would do: the rule keeps house 0 at 0.
        own = rest_paper(CALM)
        self.assertIs(is_rest_paper(CALM, own), True)
        self.told(True, (), own)
        self.told(False, (0,), own)

    def test_papers_told_in_the_documents_way(self):
        rng = random.Random(686)
        seen = [0, 0]
        for _ in range(150):
            net = one_way(rng, small_net(rng, houses=rng.choice((1, 2, 3, 4))))
            inputs = some_inputs(rng, net)
            paper = tuple(slow_rounds(net, inputs))
            seen[all_sure(net, inputs)] += 1
            self.told(all_sure(net, inputs), inputs, paper, net)
        self.assertGreater(min(seen), 30)

    def test_entries_made_wider_or_narrower(self):
        rng = random.Random(687)
        seen = [0, 0]
        for _ in range(600):
            net = one_way(rng, small_net(rng, houses=rng.choice((2, 3))))
            inputs = some_inputs(rng, net)
            paper = slow_rounds(net, inputs)
            if not all_sure(net, inputs) or len(paper) < 2:
                continue
            at, house = rng.randrange(len(paper)), rng.randrange(len(net[0]))
            rows = [list(row) for row in paper[at]]
            rows[rng.randrange(2)][house] = rng.randint(0, net[0][house])
            if rows[0][house] <= rows[1][house]:
                paper[at] = (tuple(rows[0]), tuple(rows[1]))
                is_one = slow_is_paper(net, inputs, paper)
                seen[is_one] += 1
                self.told(is_one, inputs, tuple(paper), net)
        self.assertGreater(min(seen), 30)

    def test_no_inputs(self):
        rng = random.Random(688)
        for _ in range(60):
            net = one_way(rng, small_net(rng))
            paper = tuple(slow_rounds(net, ()))
            self.assertIs(is_sure_paper(net, (), paper), is_rest_paper(net, paper))

    def test_forms(self):
        paper = tuple(slow_rounds(CALM, (0,)))
        for value in (list(paper), (list(paper[0]),) + paper[1:], (([0, 0, 0, 0], paper[0][1]),) + paper[1:], paper + ((),),
                      paper + (None,),
                      (paper,), paper[0], paper[:1] + (((0, 0, 0, 0),),) + paper[1:],
                      (((0,) * 4, (1, 1, 3, 4)),) + paper[1:],
                      paper + (((0, 0, True, 2), (1, 0, 3, 2)),), (((0,) * 3, (1, 1, 3)),) + paper[1:]):
            self.told(False, (0,), value)
        for value in ODD_VALUES:
            self.told(False, (0,), value)
            self.told(False, (0,), paper[:2] + (value,) + paper[2:])

    def test_a_branch_that_goes_both_ways(self):
        for house in range(3):
            net = net_of([2, 2, 2], [("is", 0)] * house + [BOTH] * (3 - house))
            for inputs in ((), (house,), (0, 1, 2)):
                for ask in (lambda: sure_ends(net, inputs), lambda: sure_houses(net, inputs), lambda: all_sure(net, inputs),
                            lambda: is_sure_paper(net, inputs, None),
                            lambda: is_sure_paper(net, inputs, (((0,) * 3, (2,) * 3),))):
                    with self.assertRaises(Refused) as caught:
                        ask()
                    self.assertEqual(caught.exception.at, house)


if __name__ == "__main__":
    unittest.main()

"""[26]: papers of rest, told and looked at."""

import random
import unittest

from newsbehind.beats import shown
from newsbehind.ends import ends_behind, first_ends, next_ends, rounds_needed
from newsbehind.nets import net_of
from newsbehind.resting import rests_always, the_rest
from newsbehind.restpapers import is_rest_paper, rest_paper
from sampling import ODD_VALUES, drawn_ends, drawn_run, one_way, small_net, two_sided_net

CALM = net_of([3, 3], [("part", 2, ("hear", 1)), ("clip", 1, 2, ("hear", 0))])
PAPER = (((0, 0), (3, 3)), ((0, 1), (1, 2)), ((0, 1), (1, 1)), ((0, 1), (0, 1)))
EVEN = net_of([3, 3], [("from", 3, ("hear", 1)), ("most", (("is", 1), ("hear", 0)))])


def drawn(rng):
    return one_way(rng, small_net(rng)) if rng.random() < 0.5 else two_sided_net(rng)[0]


def slow_is_paper(net, paper):
    """As the document tells it, for a tuple of ends."""
    def within(ends, others):
        return all(low >= other for low, other in zip(ends[0], others[0])) and \
            all(high <= other for high, other in zip(ends[1], others[1]))
    if not paper or not within(first_ends(net), paper[0]):
        return False
    if not all(within(next_ends(net, ahead), behind) for ahead, behind in zip(paper, paper[1:])):
        return False
    return paper[-1][0] == paper[-1][1]


class RestPaperTest(unittest.TestCase):
    def holds(self, value, net=CALM):
        self.assertIs(is_rest_paper(net, value), True, value)

    def fails(self, value, net=CALM):
        self.assertIs(is_rest_paper(net, value), False, value)

    def test_told(self):
        for net in (CALM, net_of([5, 6], [("is", 4), ("is", 1000)]), net_of([0], [("hear", 0)]),
                    net_of([1000], [("add", (("hear", 0), ("is", 1)))])):
            paper = rest_paper(net)
            self.holds(paper, net)
            self.assertEqual(paper[-1], (the_rest(net),) * 2)
            self.assertGreaterEqual(len(paper), rounds_needed(net) + 1)
        for net in (EVEN, net_of([9], [("hear", 0)])):
            self.assertIsNone(rest_paper(net))

    def test_just_nets_that_rest_always_have_one(self):
        rng = random.Random(111)
        found = [0, 0]
        for _ in range(150):
            net = drawn(rng)
            paper = rest_paper(net)
            found[paper is None] += 1
            self.assertEqual(paper is not None, rests_always(net))
            if paper is not None:
                self.holds(paper, net)
                self.assertEqual(paper[-1], (the_rest(net),) * 2)
        self.assertGreater(min(found), 30)

    def test_wider_entries(self):
        self.holds(PAPER)
        self.holds((PAPER[0],) * 5 + PAPER[1:])
        self.holds((PAPER[0], ((0, 1), (2, 3))) + PAPER[1:])
        self.holds((PAPER[0], ((0, 0), (3, 2))) + PAPER[1:])
        self.holds(PAPER + PAPER[-1:])
        # Ends need not get narrower from entry to entry.
        self.holds((PAPER[0], PAPER[1], PAPER[0], PAPER[1]) + PAPER[2:])

    def test_entries_left_out_or_otherwise(self):
        for at in range(4):
            self.fails(PAPER[:at] + PAPER[at + 1:])
        self.fails(PAPER[::-1])
        self.fails(PAPER[:1] + PAPER[2:1:-1] + PAPER[1:2] + PAPER[3:])
        for entry in (((1, 1), (1, 2)), ((0, 2), (1, 2)), ((0, 1), (0, 2)), ((0, 1), (1, 1))):
            self.fails(PAPER[:1] + (entry,) + PAPER[2:])
        for last in (((0, 1), (0, 2)), ((0, 2), (0, 2)), ((1, 1), (1, 1)), ((0, 0), (0, 0)), ((0, 0), (0, 1))):
            self.fails(PAPER[:3] + (last,))

    def test_the_first_entry(self):
        for first in (((0, 0), (3, 2)), ((0, 0), (2, 3)), ((0, 1), (3, 3)), ((1, 0), (3, 3))):
            self.fails((first,) + PAPER[1:])
        self.fails(PAPER[3:])
        nothing = net_of([0], [("hear", 0)])
        self.holds((((0,), (0,)),), nothing)
        self.holds((((0,), (0,)),) * 3, nothing)

    def test_the_last_entry(self):
        self.fails(PAPER[:1])
        self.fails(PAPER[:3])
        self.fails(PAPER + PAPER[2:3])
        self.fails((PAPER[0],) * 4)

    def test_any_value(self):
        for value in (PAPER[0], PAPER[3], PAPER[3][0], (PAPER,)):
            self.fails(value)
        for value in ODD_VALUES:
            self.fails(value)
            self.fails((value,))
            self.fails(PAPER + (value,))
            self.fails((value,) + PAPER)
            self.fails(PAPER[:3] + ((value, (0, 1)),))
            self.fails(PAPER[:3] + (((0, 1), value),))
            if value is True or value != 1:
                self.fails(PAPER[:3] + (((0, value), (0, 1)),))

    def test_lists_bools_and_other_lengths(self):
        self.fails(list(PAPER))
        self.fails(PAPER[:1] + (list(PAPER[1]),) + PAPER[2:])
        self.fails(PAPER[:1] + (([0, 1], (1, 2)),) + PAPER[2:])
        self.fails(PAPER[:1] + (((0, 1), [1, 2]),) + PAPER[2:])
        self.fails(PAPER[:3] + (((False, 1), (0, 1)),))
        self.fails(PAPER[:3] + (((0, True), (0, True)),))
        self.fails(PAPER[:3] + (((0, 1), (0, 1), (0, 1)),))
        self.fails(PAPER[:3] + (((0, 1),),))
        self.fails(PAPER[:3] + (((0, 1, 0), (0, 1, 0)),))
        self.fails(PAPER[:3] + (((0,), (0,)),))

    def test_what_are_no_ends(self):
        self.fails(PAPER[:1] + (((0, 1), (4, 3)),) + PAPER[1:])
        self.fails((((0, 0), (3, 4)),) + PAPER[1:])
        self.fails((((0, -1), (3, 3)),) + PAPER[1:])
        self.fails(PAPER[:1] + (((0, 2), (3, 1)),) + PAPER[1:])
        self.fails(PAPER[:3] + (((1, 1), (0, 1)), PAPER[3]))

    def test_nets_without_one_have_none_whatever_is_passed(self):
        for value in (PAPER, (first_ends(EVEN),), (first_ends(EVEN), ((1, 2), (1, 2))),
                      tuple(ends_behind(EVEN, many) for many in range(6))):
            self.fails(value, EVEN)

    def test_drawn_papers(self):
        rng = random.Random(112)
        seen = [0, 0]
        for _ in range(300):
            net = drawn(rng)
            paper = [first_ends(net)]
            for _ in range(rng.choice((1, 2, 3, 6))):
                ends = next_ends(net, paper[-1])
                if rng.random() < 0.3:
                    ends = drawn_ends(rng, net)
                if rng.random() < 0.2:
                    ends = (tuple(rng.randint(0, low) for low in ends[0]), ends[1])
                paper.append(ends)
            holds = slow_is_paper(net, paper)
            self.assertIs(is_rest_paper(net, tuple(paper)), holds)
            seen[holds] += 1
        self.assertGreater(min(seen), 20)

    def test_what_runs_show_behind_a_paper(self):
        rng = random.Random(113)
        found = 0
        while found < 40:
            net, d = drawn(rng), rng.choice((2, 3, 9))
            paper = rest_paper(net)
            if paper is not None and len(paper) > 1:
                found += 1
                beat = d * (len(paper) - 2)
                states = shown(net, d, drawn_run(rng, net, d, beat + 9))
                self.assertEqual(set(states[beat:]), {paper[-1][0]})


if __name__ == "__main__":
    unittest.main()

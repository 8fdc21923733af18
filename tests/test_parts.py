"""[28]: what parts of a net say: other names, fixed houses, even and odd ones."""

import random
import unittest

from newsbehind.ends import ends_behind, last_ends, rounds_needed
from newsbehind.nets import fixed, is_rest, net_of, reached, renamed_net, renamed_state, with_rule
from newsbehind.resting import resting_houses, rests_always, the_rest
from newsbehind.toggles import is_toggle, toggle_ends
from newsbehind.ways import ways
from sampling import one_way, small_net, two_sided_net
from test_toggles import all_toggles


def drawn(rng):
    return one_way(rng, small_net(rng)) if rng.random() < 0.5 else two_sided_net(rng)[0]


class NamesTest(unittest.TestCase):
    def test_last_ends_go_along_with_other_names(self):
        rng = random.Random(131)
        for _ in range(150):
            net = drawn(rng)
            names = tuple(rng.sample(range(3), 3))
            named = renamed_net(net, names)
            for many in (0, 1, 2, 99):
                lows, highs = ends_behind(net, many)
                self.assertEqual(ends_behind(named, many), (renamed_state(lows, names), renamed_state(highs, names)))
            self.assertEqual(rounds_needed(named), rounds_needed(net))
            self.assertEqual(rests_always(named), rests_always(net))
            self.assertEqual(resting_houses(named), tuple(sorted(names[house] for house in resting_houses(net))))
            if rests_always(net):
                self.assertEqual(the_rest(named), renamed_state(the_rest(net), names))


class FixedTest(unittest.TestCase):
    def test_fixed_within_its_last_ends(self):
        net = net_of([3, 3], [("from", 3, ("hear", 1)), ("most", (("is", 1), ("hear", 0)))])
        self.assertEqual(last_ends(net), ((1, 1), (2, 2)))
        self.assertEqual(last_ends(fixed(net, 0, 2)), ((2, 2), (2, 2)))
        self.assertEqual(last_ends(fixed(net, 1, 1)), ((2, 1), (2, 1)))

    def test_new_last_ends_lie_within(self):
        rng = random.Random(132)
        narrower = 0
        for _ in range(150):
            net = drawn(rng)
            house = rng.randrange(3)
            lows, highs = last_ends(net)
            for worth in range(lows[house], highs[house] + 1):
                new_lows, new_highs = last_ends(fixed(net, house, worth))
                self.assertTrue(all(map(int.__ge__, new_lows, lows)))
                self.assertTrue(all(map(int.__le__, new_highs, highs)))
                self.assertEqual((new_lows[house], new_highs[house]), (worth, worth))
                narrower += any(new_lows[k] + highs[k] > lows[k] + new_highs[k] for k in range(3) if k != house)
        self.assertGreater(narrower, 20)

    def test_houses_to_which_no_news_comes(self):
        rng = random.Random(133)
        alone = 0
        for _ in range(150):
            net = drawn(rng)
            house = rng.randrange(3)
            lows, highs = last_ends(net)
            other_lows, other_highs = last_ends(with_rule(net, house, ("is", rng.randrange(4))))
            for other in range(3):
                if other != house and other not in reached(net, house):
                    alone += 1
                    self.assertEqual((other_lows[other], other_highs[other]), (lows[other], highs[other]))
        self.assertGreater(alone, 40)


class SidesTest(unittest.TestCase):
    def rests_of(self, sides, toggle):
        """The two states of a toggle: lows at the even houses and highs at the odd ones, and the other way round."""
        lows, highs = toggle
        return (tuple(high if side else low for low, high, side in zip(lows, highs, sides)),
                tuple(low if side else high for low, high, side in zip(lows, highs, sides)))

    def test_each_toggle_tells_two_rests(self):
        rng = random.Random(134)
        seen = 0
        for _ in range(60):
            net, sides = two_sided_net(rng, houses=2)
            for house in range(2):
                for word, side in zip(ways(net, house), sides):
                    self.assertIn(word, ("rises", "falls", "none"))
            for toggle in all_toggles(net):
                seen += 1
                for rest in self.rests_of(sides, toggle):
                    self.assertIs(is_rest(net, rest), True)
        self.assertGreater(seen, 60)

    def test_three_houses(self):
        rng = random.Random(135)
        seen = 0
        for _ in range(100):
            net, sides = two_sided_net(rng)
            toggle = toggle_ends(net)
            if toggle is not None:
                seen += 1
                self.assertIs(is_toggle(net, toggle), True)
                for rest in self.rests_of(sides, toggle):
                    self.assertIs(is_rest(net, rest), True)
        self.assertGreater(seen, 30)

    def test_all_even_if_no_branch_falls(self):
        net = net_of([4, 4], [("hear", 1), ("part", 1, ("hear", 0))])
        self.assertEqual(toggle_ends(net), ((0, 0), (4, 4)))
        self.assertTrue(is_rest(net, (0, 0)) and is_rest(net, (4, 4)))


if __name__ == "__main__":
    unittest.main()

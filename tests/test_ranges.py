"""[19]: the range of each kind of rule, and of houses."""

import itertools
import random
import unittest

from newsbehind.nets import net_of, wanted
from newsbehind.ranges import house_range, range_of
from newsbehind.rules import branches, told
from sampling import Drawing, drawn_net, small_net

NET = net_of([9, 4, 0], [("is", 0)] * 3)
NINE, FOUR, NONE = ("hear", 0), ("hear", 1), ("hear", 2)


def all_rows(net, rule):
    return itertools.product(*[range(net[0][other] + 1) for other in branches(rule)])


class RangeTest(unittest.TestCase):
    def ranges(self, *rows):
        for rule, ends in rows:
            self.assertEqual(range_of(NET, rule), ends, rule)

    def test_leaves(self):
        self.ranges((("is", 7), (7, 7)), (("is", 1000), (1000, 1000)), (NINE, (0, 9)), (FOUR, (0, 4)), (NONE, (0, 0)))

    def test_lists(self):
        parts = (("add", (FOUR, ("is", 2))), NINE)
        self.ranges((("least", parts), (0, 6)), (("most", parts), (2, 9)), (("add", parts), (2, 15)))
        self.ranges((("least", (FOUR,)), (0, 4)), (("most", (FOUR,)), (0, 4)), (("add", (FOUR,)), (0, 4)))
        self.ranges((("add", (NINE, NINE, NINE)), (0, 27)), (("least", (NINE, ("is", 3))), (0, 3)))

    def test_middle(self):
        high = ("add", (FOUR, ("is", 5)))
        self.ranges((("middle", high, NINE, ("is", 2)), (2, 9)), (("middle", NINE, NINE, FOUR), (0, 9)),
                    (("middle", FOUR, ("is", 3), ("is", 8)), (3, 4)), (("middle", NINE, ("is", 3), ("is", 3)), (3, 3)))

    def test_times_and_part(self):
        self.ranges((("times", 3, FOUR), (0, 12)), (("times", 0, FOUR), (0, 0)),
                    (("times", 1000, ("times", 1000, NINE)), (0, 9000000)))
        self.ranges((("part", 2, NINE), (0, 4)), (("part", 1, NINE), (0, 9)), (("part", 10, NINE), (0, 0)))

    def test_clip(self):
        self.ranges((("clip", 2, 7, NINE), (2, 7)), (("clip", 2, 20, NINE), (2, 9)), (("clip", 5, 7, FOUR), (5, 5)),
                    (("clip", 0, 3, ("add", (FOUR, ("is", 3)))), (3, 3)), (("clip", 4, 4, NINE), (4, 4)))

    def test_from(self):
        self.ranges((("from", 20, NINE), (11, 20)), (("from", 9, NINE), (0, 9)), (("from", 5, NINE), (0, 5)),
                    (("from", 0, NINE), (0, 0)), (("from", 6, ("add", (FOUR, ("is", 5)))), (0, 1)),
                    (("from", 7, NONE), (7, 7)))

    def test_bar_on_one_side(self):
        self.ranges((("bar", 10, 3, 8, NINE), (3, 3)), (("bar", 10, 8, 3, NINE), (8, 8)), (("bar", 0, 3, 8, NINE), (8, 8)),
                    (("bar", 0, 8, 3, NINE), (3, 3)), (("bar", 5, 1, 2, ("add", (FOUR, ("is", 5)))), (2, 2)),
                    (("bar", 5, 1, 2, FOUR), (1, 1)), (("bar", 1000, 1, 2, NONE), (1, 1)), (("bar", 0, 1, 2, NONE), (2, 2)))

    def test_bar_across(self):
        self.ranges((("bar", 9, 3, 8, NINE), (3, 8)), (("bar", 9, 8, 3, NINE), (3, 8)), (("bar", 1, 8, 3, NINE), (3, 8)),
                    (("bar", 5, 4, 4, NINE), (4, 4)), (("bar", 4, 0, 1000, FOUR), (0, 1000)))

    def test_row(self):
        self.ranges((("row", (5, 2, 8, 1, 7), FOUR), (1, 8)), (("row", (5, 2, 8), FOUR), (2, 8)),
                    (("row", (6,), NINE), (6, 6)),
                    (("row", (5, 2), NONE), (5, 5)), (("row", (3, 3, 3), NINE), (3, 3)))

    def test_row_beyond_its_last_entry(self):
        beyond = ("add", (FOUR, ("is", 7)))
        self.ranges((("row", (9, 1, 4), beyond), (4, 4)), (("row", (0,) * 8 + (5, 9, 2), beyond), (0, 9)),
                    (("row", (100, 100, 3, 8), ("times", 1000, ("times", 1000, FOUR))), (3, 100)))

    def test_row_over_a_narrow_range(self):
        self.ranges((("row", (100, 7, 5, 6, 0), ("clip", 1, 3, NINE)), (5, 7)), (("row", (9, 1), ("is", 1)), (1, 1)),
                    (("row", (9, 1, 4), ("is", 1000)), (4, 4)), (("row", (0, 5, 0), ("bar", 3, 1, 1, NINE)), (5, 5)))

    def test_rules_within_rules(self):
        self.ranges(
            (("from", 10, ("times", 2, ("bar", 3, 4, 1, NINE))), (2, 8)),
            (("row", (0, 9, 3, 7), ("from", 3, ("part", 2, FOUR))), (3, 9)),
            (("add", (("from", 4, FOUR), FOUR, ("clip", 1, 2, ("from", 3, NINE)))), (1, 10)),
            (("middle", ("from", 9, NINE), ("row", (6, 2), NINE), ("most", (FOUR, ("is", 3)))), (2, 6)),
        )

    def test_as_the_words_of_the_document(self):
        rng = random.Random(61)
        for _ in range(200):
            net = drawn_net(rng, most_top=rng.choice((0, 3, 1000)))
            rule = Drawing(rng, len(net[0])).rule(rng.choice((2, 5, 20, 60)), 8)
            self.assertEqual(range_of(net, rule), slow_range(net, rule))

    def test_all_that_is_told_lies_within(self):
        rng = random.Random(62)
        both_ends = 0
        for _ in range(400):
            net = small_net(rng, heard=4)
            for house, rule in enumerate(net[1]):
                low, high = range_of(net, rule)
                numbers = {told(rule, row) for row in all_rows(net, rule)}
                self.assertLessEqual(low, min(numbers))
                self.assertGreaterEqual(high, max(numbers))
                if "row" not in repr(rule):
                    self.assertEqual((low, high), (min(numbers), max(numbers)))
                    both_ends += low < high
                least, greatest = house_range(net, house)
                for row in all_rows(net, rule):
                    self.assertTrue(least <= wanted(net, house, row) <= greatest)
        self.assertGreater(both_ends, 100)


def slow_range(net, rule):
    word = rule[0]
    if word == "is":
        return rule[1], rule[1]
    if word == "hear":
        return 0, net[0][rule[1]]
    if word in ("least", "most", "add"):
        inner = [slow_range(net, part) for part in rule[1]]
        make = {"least": min, "most": max, "add": sum}[word]
        return make([low for low, _ in inner]), make([high for _, high in inner])
    if word == "middle":
        inner = [slow_range(net, part) for part in rule[1:]]
        return sorted(low for low, _ in inner)[1], sorted(high for _, high in inner)[1]
    low, high = slow_range(net, rule[-1])
    if word == "times":
        return rule[1] * low, rule[1] * high
    if word == "part":
        return low // rule[1], high // rule[1]
    if word == "clip":
        return max(rule[1], min(rule[2], low)), max(rule[1], min(rule[2], high))
    if word == "from":
        return max(0, rule[1] - high), max(0, rule[1] - low)
    if word == "bar":
        if high < rule[1]:
            return rule[2], rule[2]
        if low >= rule[1]:
            return rule[3], rule[3]
        return min(rule[2:4]), max(rule[2:4])
    entries = [rule[1][min(number, len(rule[1]) - 1)] for number in range(low, min(high, low + 64) + 1)]
    return min(entries), max(entries)


class HouseRangeTest(unittest.TestCase):
    def test_cut_to_the_top(self):
        rules = [("is", 0), ("add", (("hear", 0), ("is", 3))), ("hear", 0), ("is", 5), ("from", 4, ("hear", 0))]
        net = net_of([9, 5, 20, 3, 2], rules)
        self.assertEqual([house_range(net, house) for house in range(5)], [(0, 0), (3, 5), (0, 9), (3, 3), (0, 2)])

    def test_a_top_below_the_range(self):
        net = net_of([9, 2, 0], [("is", 0), ("add", (("hear", 0), ("is", 3))), ("hear", 0)])
        self.assertEqual(house_range(net, 1), (2, 2))
        self.assertEqual(range_of(net, net[1][1]), (3, 12))
        self.assertEqual(house_range(net, 2), (0, 0))


if __name__ == "__main__":
    unittest.main()

"""[21]: ways told by looking at all rows of worths."""

import itertools
import random
import unittest

from newsbehind.errors import Refused
from newsbehind.exactways import exact_ways, shown_ways
from newsbehind.nets import net_of, wanted
from newsbehind.rules import branches
from newsbehind.ways import ways
from sampling import greatest_net, small_net

HEAR = ("hear", 1)


def hearing(rule, *tops):
    """A net whose house 0 has this rule, others having these tops."""
    return net_of([1000] + list(tops), [rule] + [("is", 0)] * len(tops))


def all_rows(net, house):
    return list(itertools.product(*[range(net[0][other] + 1) for other in branches(net[1][house])]))


def steps(net, house, branch):
    """For each row that can bring one more at a branch: the row, what is wanted, what is wanted with one more."""
    top = net[0][branches(net[1][house])[branch]]
    for row in all_rows(net, house):
        if row[branch] < top:
            more = row[:branch] + (row[branch] + 1,) + row[branch + 1:]
            yield row, wanted(net, house, row), wanted(net, house, more)


class ExactWaysTest(unittest.TestCase):
    def refused(self, many, net, house=0):
        for ask in (lambda: exact_ways(net, house), lambda: shown_ways(net, house, 0)):
            with self.assertRaises(Refused) as caught:
                ask()
            self.assertEqual(caught.exception.at, many)

    def test_each_word(self):
        for rule, word in (
            (HEAR, "rises"), (("from", 2, HEAR), "falls"), (("row", (1, 2, 0), HEAR), "both"), (("times", 0, HEAR), "none"),
            (("row", (1, 0, 1, 0), HEAR), "both"), (("row", (4, 4, 4, 5), HEAR), "rises"),
        ):
            self.assertEqual(exact_ways(hearing(rule, 5), 0), (word,))

    def test_each_branch_on_its_own(self):
        rule = ("add", (HEAR, ("from", 9, ("hear", 2)), ("times", 0, HEAR), ("row", (0, 1, 0), ("hear", 2))))
        self.assertEqual(exact_ways(hearing(rule, 3, 4), 0), ("rises", "falls", "none", "both"))

    def test_no_branches(self):
        self.assertEqual(exact_ways(hearing(("is", 4), 9), 0), ())

    def test_a_branch_that_has_one_worth_only(self):
        self.assertEqual(exact_ways(hearing(("add", (HEAR, ("hear", 2))), 0, 3), 0), ("none", "rises"))
        self.assertEqual(shown_ways(hearing(HEAR, 0), 0, 0), (None, None))

    def test_the_top_of_the_house(self):
        net = net_of([2, 9], [("add", (HEAR, ("is", 2))), ("times", 5, ("hear", 0))])
        self.assertEqual(exact_ways(net, 0), ("none",))
        self.assertEqual(exact_ways(net, 1), ("rises",))

    def test_where_ways_say_both_and_this_does_not(self):
        # The range of what stands in a row has numbers that it never tells.
        for top, rule, exact in (
            (1, ("row", (5, 0, 7), ("times", 2, HEAR)), "rises"),
            (1, ("row", (5, 9, 4), ("times", 2, HEAR)), "falls"),
            (1, ("row", (5, 9, 5), ("times", 2, HEAR)), "none"),
            (2, ("row", (5, 9, 4), ("times", 2, HEAR)), "falls"),
            (2, ("row", (5, 9, 7, 9, 8), ("times", 2, HEAR)), "rises"),
            (2, ("row", (0, 3, 9, 4), ("row", (0, 2, 3), ("row", (0, 2, 1), HEAR))), "rises"),
            (2, ("row", (5, 9, 4), HEAR), "both"),
        ):
            net = hearing(rule, top)
            self.assertEqual((ways(net, 0), exact_ways(net, 0)), (("both",), (exact,)))

    def test_4096_rows(self):
        net = hearing(("add", (HEAR, ("from", 63, ("hear", 2)))), 63, 63)
        self.assertEqual(exact_ways(net, 0), ("rises", "falls"))
        self.assertEqual(shown_ways(net, 0, 1)[0], None)
        self.assertEqual(exact_ways(hearing(("add", (HEAR,) * 12), 1), 0), ("rises",) * 12)
        net = hearing(("most", (HEAR,) * 6 + (("hear", 2),) * 6), 3, 0)
        self.assertEqual(exact_ways(net, 0), ("rises",) * 6 + ("none",) * 6)

    def test_4097_rows_and_more(self):
        # 4,097 is 17 times 241.
        self.refused(4097, hearing(("add", (HEAR, ("hear", 2))), 16, 240))
        self.refused(4160, hearing(("add", (HEAR, ("hear", 2))), 63, 64))
        self.refused(8192, hearing(("add", (HEAR,) * 11 + (("hear", 2),)), 1, 3))
        self.refused(1001 ** 12, greatest_net(), 7)
        self.refused(1002001, hearing(("times", 0, ("add", (HEAR, HEAR))), 1000))

    def test_other_houses_do_not_count(self):
        net = net_of([9, 1000, 1000], [("hear", 0), ("add", (("hear", 1), ("hear", 2))), ("is", 0)])
        self.assertEqual(exact_ways(net, 0), ("rises",))
        self.assertEqual(exact_ways(net, 2), ())
        self.refused(1002001, net, 1)

    def test_as_all_rows_tell(self):
        rng = random.Random(81)
        seen = {}
        for _ in range(300):
            net = small_net(rng, heard=4)
            for house in range(3):
                words = exact_ways(net, house)
                self.assertEqual(len(words), len(branches(net[1][house])))
                for branch, word in enumerate(words):
                    moves = list(steps(net, house, branch))
                    more = any(behind > ahead for _, ahead, behind in moves)
                    less = any(behind < ahead for _, ahead, behind in moves)
                    self.assertEqual(word, {(0, 0): "none", (1, 0): "rises", (0, 1): "falls", (1, 1): "both"}[more, less])
                    seen[word] = seen.get(word, 0) + 1
                    rise, fall = shown_ways(net, house, branch)
                    self.assertEqual((rise is not None, fall is not None), (more, less))
                    if more:
                        self.assertTrue([row for row, ahead, behind in moves if row == rise and behind > ahead])
                    if less:
                        self.assertTrue([row for row, ahead, behind in moves if row == fall and behind < ahead])
        self.assertGreater(min(seen[word] for word in ("none", "both", "rises", "falls")), 20)

    def test_what_ways_tell_is_told_here_too(self):
        rng = random.Random(82)
        sharper = 0
        for _ in range(300):
            net = small_net(rng, heard=4)
            for house in range(3):
                for told, exact in zip(ways(net, house), exact_ways(net, house)):
                    if told in ("rises", "falls"):
                        self.assertIn(exact, (told, "none"))
                    elif told == "none":
                        self.assertEqual(exact, "none")
                    else:
                        sharper += exact != "both"
        self.assertGreater(sharper, 10)


class ShownWaysTest(unittest.TestCase):
    def test_the_rows(self):
        net = hearing(("row", (1, 2, 0), HEAR), 2)
        self.assertEqual(shown_ways(net, 0, 0), ((0,), (1,)))
        net = hearing(("least", (HEAR, ("hear", 2))), 1, 1)
        self.assertEqual(shown_ways(net, 0, 0), ((0, 1), None))
        self.assertEqual(shown_ways(net, 0, 1), ((1, 0), None))
        net = hearing(("from", 1, ("most", (HEAR, ("hear", 2)))), 1, 1)
        self.assertEqual(shown_ways(net, 0, 0), (None, (0, 0)))
        self.assertEqual(shown_ways(hearing(("times", 0, HEAR), 5), 0, 0), (None, None))


if __name__ == "__main__":
    unittest.main()

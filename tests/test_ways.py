"""[20], [22]: ways of branches, and the ends that a house must hear."""

import itertools
import random
import unittest

from newsbehind.errors import InvalidQuestion
from newsbehind.exactways import exact_ways
from newsbehind.nets import hearers, net_of, renamed_net, wanted
from newsbehind.ranges import house_range, range_of
from newsbehind.rules import branches, is_rule
from newsbehind.ways import are_one_way, end_heard, ways
from sampling import drawn_ends, drawn_net, one_way, small_net

HEAR = ("hear", 1)


def words_of(rule, heard_top=9, top=1000):
    return ways(net_of([top, heard_top], [rule, ("is", 0)]), 0)


def inner(rule):
    return [part for part in (rule[1] if rule[0] in ("least", "most", "add") else rule[1:]) if is_rule(part)] \
        if rule[0] not in ("is", "hear") else []


def rules_above(rule):
    """For each branch of a rule, in order, all rules in which it stands, itself first."""
    if rule[0] == "hear":
        return [[rule]]
    return [above + [rule] for part in inner(rule) for above in rules_above(part)]


def slow_ways(net, house):
    """The words as the document tells them, branch by branch."""
    words = []
    for above in rules_above(net[1][house]):
        ends = [range_of(net, rule) for rule in above] + [house_range(net, house)]
        rows = []
        for rule in above:
            if rule[0] == "row":
                low, high = range_of(net, rule[2])
                rows.append([rule[1][min(number, len(rule[1]) - 1)] for number in range(low, min(high, low + 64) + 1)])
        rising = [any(one < other for one, other in zip(row, row[1:])) for row in rows]
        falling = [any(one > other for one, other in zip(row, row[1:])) for row in rows]
        turns = sum(falling)
        for rule in above:
            turns += rule[0] == "from" or (rule[0] == "bar" and rule[2] > rule[3])
        if any(low == high for low, high in ends):
            words.append("none")
        elif any(up and down for up, down in zip(rising, falling)):
            words.append("both")
        else:
            words.append("falls" if turns % 2 else "rises")
    return tuple(words)


class WaysTest(unittest.TestCase):
    def words(self, *rows):
        for rule, word in rows:
            self.assertEqual(words_of(rule), (word,), rule)

    def test_rises(self):
        self.words((HEAR, "rises"), (("times", 2, HEAR), "rises"), (("part", 3, HEAR), "rises"),
                   (("clip", 2, 5, HEAR), "rises"), (("least", (HEAR, ("is", 3))), "rises"),
                   (("most", (("is", 3), HEAR)), "rises"), (("add", (HEAR,)), "rises"),
                   (("middle", ("is", 1), HEAR, ("is", 5)), "rises"), (("bar", 3, 1, 2, HEAR), "rises"),
                   (("row", (1, 1, 4), HEAR), "rises"))

    def test_falls(self):
        self.words((("from", 5, HEAR), "falls"), (("bar", 3, 2, 1, HEAR), "falls"), (("row", (4, 4, 1), HEAR), "falls"),
                   (("add", (("is", 2), ("from", 9, ("times", 2, HEAR)))), "falls"))

    def test_falling_within_falling(self):
        self.words((("from", 5, ("from", 4, HEAR)), "rises"), (("from", 5, ("bar", 3, 2, 1, HEAR)), "rises"),
                   (("bar", 2, 7, 3, ("row", (4, 3, 1), HEAR)), "rises"),
                   (("row", (9, 8, 7, 6, 5), ("from", 4, HEAR)), "rises"),
                   (("from", 5, ("from", 5, ("from", 5, HEAR))), "falls"),
                   (("row", (3, 1), ("bar", 2, 1, 0, ("from", 3, HEAR))), "falls"),
                   (("row", (3, 1), ("bar", 2, 0, 1, ("from", 3, HEAR))), "rises"))

    def test_both(self):
        self.words((("row", (1, 2, 0), HEAR), "both"), (("row", (1, 0, 2), HEAR), "both"),
                   (("row", (1, 2, 2, 2, 1), HEAR), "both"),
                   (("from", 5, ("row", (1, 2, 0), HEAR)), "both"), (("row", (1, 2, 0), ("from", 5, HEAR)), "both"),
                   (("clip", 0, 9, ("add", (("row", (5, 6, 5), HEAR), ("is", 1)))), "both"),
                   (("row", (1, 2, 3, 4, 5), ("row", (1, 2, 0), HEAR)), "both"))

    def test_both_by_the_range_of_the_inner_rule_alone(self):
        self.words((("row", (9, 1, 2, 3, 0), ("clip", 1, 3, HEAR)), "rises"),
                   (("row", (0, 3, 2, 1, 5), ("clip", 1, 3, HEAR)), "falls"),
                   (("row", (0, 3, 3, 3, 5), ("clip", 1, 3, HEAR)), "none"),
                   (("row", (0,) * 9 + (1, 2), HEAR), "rises"), (("row", (0,) * 10 + (5, 3), HEAR), "none"),
                   (("row", (5,) * 9 + (4, 6), HEAR), "falls"), (("row", (0, 5, 3), ("bar", 4, 0, 1, HEAR)), "rises"),
                   (("row", (7, 0, 5), ("add", (HEAR, ("is", 1)))), "rises"))
        self.assertEqual(words_of(("row", (1, 2, 0), HEAR), heard_top=1), ("rises",))
        self.assertEqual(words_of(("row", (1, 2, 0), HEAR), heard_top=2), ("both",))

    def test_none_by_a_range_of_one_number(self):
        self.words((("times", 0, HEAR), "none"), (("part", 10, HEAR), "none"), (("clip", 4, 4, HEAR), "none"),
                   (("from", 0, HEAR), "none"), (("bar", 4, 3, 3, HEAR), "none"), (("bar", 10, 3, 4, HEAR), "none"),
                   (("bar", 0, 3, 4, HEAR), "none"), (("row", (3,), HEAR), "none"), (("row", (3, 3, 3), HEAR), "none"),
                   (("least", (HEAR, ("is", 0))), "none"), (("most", (HEAR, ("is", 9))), "none"),
                   (("middle", ("is", 4), HEAR, ("is", 4)), "none"))

    def test_none_at_any_depth(self):
        self.words((("add", (("times", 0, ("from", 5, HEAR)), ("is", 3))), "none"),
                   (("times", 0, ("row", (1, 2, 0), HEAR)), "none"), (("row", (1, 2, 0), ("times", 0, HEAR)), "none"),
                   (("part", 1000, ("add", (HEAR, ("is", 7)))), "none"))
        rule = ("add", (("times", 0, HEAR), HEAR, ("most", (HEAR, ("is", 20)))))
        self.assertEqual(words_of(rule), ("none", "rises", "none"))

    def test_none_by_the_branch_itself(self):
        rule = ("add", (HEAR, ("from", 5, HEAR), ("hear", 0), ("row", (1, 3, 0), HEAR)))
        self.assertEqual(words_of(rule, heard_top=0), ("none", "none", "rises", "none"))
        self.assertEqual(words_of(HEAR, heard_top=0), ("none",))

    def test_none_by_the_house(self):
        rule = ("add", (HEAR, ("is", 7), ("row", (1, 2, 0), HEAR)))
        self.assertEqual(words_of(rule, top=20), ("rises", "both"))
        self.assertEqual(words_of(rule, top=9), ("rises", "both"))
        self.assertEqual(words_of(rule, top=7), ("none", "none"))
        self.assertEqual(words_of(rule, top=0), ("none", "none"))

    def test_each_branch_on_its_own(self):
        rule = ("add", (("from", 5, ("middle", HEAR, ("from", 9, HEAR), ("row", (0, 5, 1), HEAR))), HEAR, ("hear", 0)))
        self.assertEqual(words_of(rule), ("falls", "rises", "both", "rises", "rises"))

    def test_no_branches(self):
        self.assertEqual(words_of(("add", (("is", 1), ("from", 9, ("is", 3))))), ())

    def test_as_the_words_of_the_document(self):
        rng = random.Random(71)
        seen = {}
        for _ in range(400):
            net = rng.choice((small_net(rng), drawn_net(rng, houses=3), drawn_net(rng, houses=3, most_top=3)))
            for house in range(3):
                words = ways(net, house)
                self.assertEqual(words, slow_ways(net, house))
                self.assertEqual(len(words), len(branches(net[1][house])))
                for word in words:
                    seen[word] = seen.get(word, 0) + 1
        self.assertGreater(min(seen[word] for word in ("none", "both", "rises", "falls")), 20)

    def test_what_the_words_say(self):
        rng = random.Random(72)
        for _ in range(150):
            net = small_net(rng, heard=4)
            for house, rule in enumerate(net[1]):
                heard = branches(rule)
                for row in itertools.product(*[range(net[0][other] + 1) for other in heard]):
                    for at, word in enumerate(ways(net, house)):
                        if row[at] < net[0][heard[at]] and word != "both":
                            ahead = wanted(net, house, row)
                            behind = wanted(net, house, row[:at] + (row[at] + 1,) + row[at + 1:])
                            self.assertTrue(behind >= ahead or word == "falls")
                            self.assertTrue(behind <= ahead or word == "rises")

    def test_houses_renamed(self):
        rng = random.Random(73)
        for _ in range(100):
            net = small_net(rng, houses=4)
            names = tuple(rng.sample(range(4), 4))
            named = renamed_net(net, names)
            for house in range(4):
                self.assertEqual(ways(named, names[house]), ways(net, house))
            self.assertEqual(are_one_way(named), are_one_way(net))

    def test_lesser_tops(self):
        rng = random.Random(74)
        seen = set()
        for _ in range(300):
            net = small_net(rng)
            house = rng.randrange(3)
            tops = net[0][:house] + (rng.randint(0, net[0][house]),) + net[0][house + 1:]
            lesser = net_of(tops, net[1])
            for other in hearers(net, house):
                if other == house:
                    continue
                for ahead, behind in zip(ways(net, other), ways(lesser, other)):
                    self.assertTrue(behind in (ahead, "none") or ahead == "both")
                    seen.add((ahead, behind))
        self.assertGreater(len(seen), 6)


class OneWayTest(unittest.TestCase):
    def test_no_branch_with_both(self):
        for rules, one in (
            ([HEAR, ("hear", 0)], True), ([("row", (1, 2, 0), HEAR), ("is", 0)], False), ([("is", 0), ("is", 1)], True),
            ([("is", 0), ("add", (("hear", 0), ("row", (2, 1, 2), HEAR)))], False),
            ([("row", (1, 2, 0), ("clip", 0, 1, HEAR)), ("from", 2, ("hear", 0))], True),
        ):
            self.assertIs(are_one_way(net_of([9, 9], rules)), one)

    def test_as_the_ways_of_all_houses(self):
        rng = random.Random(75)
        told = [0, 0]
        for _ in range(100):
            net = small_net(rng)
            one = all("both" not in ways(net, house) for house in range(3))
            self.assertIs(are_one_way(net), one)
            self.assertIs(are_one_way(one_way(rng, net)), True)
            told[one] += 1
        self.assertGreater(min(told), 10)


class EndHeardTest(unittest.TestCase):
    def test_each_word(self):
        rule = ("add", (("hear", 0), ("from", 9, ("hear", 2)), ("times", 0, HEAR), HEAR, ("bar", 3, 2, 1, ("hear", 0))))
        net = net_of([9, 9, 9], [rule, ("is", 0), ("is", 0)])
        self.assertEqual(ways(net, 0), ("rises", "falls", "none", "rises", "falls"))
        self.assertEqual(end_heard(net, 0, (1, 2, 3), (4, 5, 6)), ((1, 6, 2, 2, 4), (4, 3, 5, 5, 1)))
        self.assertEqual(end_heard(net, 1, (1, 2, 3), (4, 5, 6)), ((), ()))
        self.assertEqual(end_heard(net, 0, (1, 2, 3), (1, 2, 3)), ((1, 3, 2, 2, 1),) * 2)

    def test_a_branch_with_both(self):
        net = net_of([9, 9], [("add", (HEAR, ("row", (1, 2, 0), HEAR))), ("hear", 0)])
        for lows, highs in (((0, 0), (9, 9)), ((1, 1), (1, 1)), ((0, 2), (9, 2))):
            with self.assertRaises(InvalidQuestion) as caught:
                end_heard(net, 0, lows, highs)
            self.assertEqual(caught.exception.at, 1)
        # The other house has none: it may be asked.
        self.assertEqual(end_heard(net, 1, (1, 2), (3, 4)), ((1,), (3,)))

    def test_all_rows_between_two_states(self):
        rng = random.Random(76)
        narrow = 0
        for _ in range(120):
            net = one_way(rng, small_net(rng, heard=4))
            lows, highs = drawn_ends(rng, net)
            for house, rule in enumerate(net[1]):
                least, most = end_heard(net, house, lows, highs)
                rows = list(itertools.product(*[range(lows[other], highs[other] + 1) for other in branches(rule)]))
                wants = [wanted(net, house, row) for row in rows]
                self.assertIn(least, rows)
                self.assertIn(most, rows)
                self.assertEqual(wanted(net, house, least), min(wants))
                self.assertEqual(wanted(net, house, most), max(wants))
                narrow += len(set(wants)) > 1
        self.assertGreater(narrow, 50)

    def test_where_exact_ways_agree(self):
        rng = random.Random(77)
        for _ in range(100):
            net = small_net(rng, heard=3)
            for house in range(3):
                for word, exact in zip(ways(net, house), exact_ways(net, house)):
                    self.assertIn((word, exact), (
                        ("none", "none"), ("rises", "rises"), ("rises", "none"), ("falls", "falls"), ("falls", "none"),
                        ("both", "none"), ("both", "rises"), ("both", "falls"), ("both", "both"),
                    ))


if __name__ == "__main__":
    unittest.main()

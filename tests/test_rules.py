"""[1], [5]: numbers and rules."""

import random
import unittest

from newsbehind.rules import branches, is_rule, told
from sampling import ODD_VALUES, drawn_rule, greatest_rule, within

ZERO = ("is", 0)
HEAR = ("hear", 0)


def slowly_told(rule, heard):
    """What a rule tells, reckoned another way: what is heard is taken off a list from its front."""
    return _slowly(rule, list(heard))


def _slowly(rule, left):
    word = rule[0]
    if word == "is":
        return rule[1]
    if word == "hear":
        return left.pop(0)
    if word in ("least", "most", "add"):
        worths = sorted(_slowly(part, left) for part in rule[1])
        return {"least": worths[0], "most": worths[-1], "add": sum(worths)}[word]
    if word == "middle":
        return sorted([_slowly(part, left) for part in rule[1:]])[1]
    told_within = _slowly(rule[-1], left)
    if word == "times":
        return sum(told_within for _ in range(rule[1]))
    if word == "part":
        return (told_within - told_within % rule[1]) // rule[1]
    if word == "clip":
        return sorted((rule[1], told_within, rule[2]))[1]
    if word == "from":
        return rule[1] - min(rule[1], told_within)
    if word == "bar":
        return rule[2] if told_within < rule[1] else rule[3]
    return (rule[1][told_within:] or rule[1][-1:])[0]


class IsRuleTest(unittest.TestCase):
    def good(self, *values):
        for value in values:
            self.assertIs(is_rule(value), True, value)

    def bad(self, *values):
        for value in values:
            self.assertIs(is_rule(value), False, value)

    def test_each_kind(self):
        self.good(ZERO, HEAR, ("least", (ZERO,)), ("most", (ZERO, HEAR)), ("add", (HEAR, HEAR)))
        self.good(("middle", ZERO, HEAR, ZERO), ("times", 0, HEAR), ("part", 1, HEAR), ("clip", 2, 2, HEAR))
        self.good(("from", 3, HEAR), ("bar", 1, 5, 2, HEAR), ("row", (3, 1), HEAR))

    def test_other_values(self):
        self.bad(*ODD_VALUES)

    def test_numbers_up_to_1000(self):
        for make in (
            lambda n: ("is", n), lambda n: ("hear", n), lambda n: ("times", n, ZERO), lambda n: ("part", n, ZERO),
            lambda n: ("clip", 0, n, ZERO), lambda n: ("clip", n, 1000, ZERO), lambda n: ("from", n, ZERO),
            lambda n: ("bar", n, 0, 0, ZERO), lambda n: ("bar", 0, n, 0, ZERO), lambda n: ("bar", 0, 0, n, ZERO),
            lambda n: ("row", (n,), ZERO), lambda n: ("row", (0, n, 0), ZERO),
        ):
            self.good(make(1), make(1000))
            self.bad(make(-1), make(1001), make(True), make(False), make(None), make("1"), make(1.0), make([1]))
            self.bad(make((1,)), make(10 ** 400), make(ZERO))

    def test_part_of_nothing(self):
        self.good(("part", 1, HEAR))
        self.bad(("part", 0, HEAR))

    def test_clip_with_low_above_high(self):
        self.good(("clip", 0, 0, HEAR), ("clip", 1000, 1000, HEAR))
        self.bad(("clip", 1, 0, HEAR), ("clip", 1000, 999, HEAR), ("clip", "a", 1, HEAR), ("clip", None, 1, HEAR))

    def test_bar_in_any_order(self):
        self.good(("bar", 0, 1000, 0, HEAR), ("bar", 1000, 0, 1000, HEAR))

    def test_lists_of_rules(self):
        for word in ("least", "most", "add"):
            self.good((word, (ZERO,)), (word, (ZERO,) * 59))
            self.bad((word, ()), (word, [ZERO]), (word, (ZERO,) * 60), (word, ZERO), (word,), (word, (ZERO,), (ZERO,)))
            self.bad((word, ZERO, ZERO), (word, None), (word, (None,)), (word, (ZERO, ["is", 0])), (word, {ZERO: ZERO}))

    def test_middle_of_three(self):
        self.bad(("middle", ZERO, ZERO), ("middle", ZERO, ZERO, ZERO, ZERO), ("middle", (ZERO, ZERO, ZERO)))
        self.bad(("middle", ZERO, ZERO, 0), ("middle",), ["middle", ZERO, ZERO, ZERO])

    def test_rows(self):
        self.good(("row", (7,), HEAR), ("row", (7,) * 64, HEAR))
        self.bad(("row", (), HEAR), ("row", (7,) * 65, HEAR), ("row", [7], HEAR), ("row", 7, HEAR), ("row", (7,)))
        self.bad(("row", (7,), HEAR, HEAR), ("row", 7, 8, HEAR), ("row", "77", HEAR), ("row", (True,), HEAR))

    def test_too_many_and_too_few_entries(self):
        for rule in (ZERO, HEAR, ("times", 1, ZERO), ("part", 1, ZERO), ("clip", 1, 1, ZERO), ("from", 1, ZERO),
                     ("bar", 1, 1, 1, ZERO), ("row", (1,), ZERO)):
            self.good(rule)
            self.bad(rule[:-1], rule + (ZERO,), rule + (1,), rule[:1], rule[1:], list(rule), rule[:1] + (1,) + rule[1:])

    def test_words(self):
        self.bad(("Is", 0), ("of", 0), ("", 0), ("is ", 0), (b"is", 0), (None, 0), (0, 0), ((), 0), ([], 0), ({}, 0))
        self.bad(("max", (ZERO,)), ("sum", (ZERO,)), ("house", 0, ZERO))

    def test_12_branches(self):
        self.good(("add", (HEAR,) * 12), ("add", (("add", (HEAR,) * 6), ("add", (HEAR,) * 6))))
        self.bad(("add", (HEAR,) * 13), ("add", (("add", (HEAR,) * 6), ("add", (HEAR,) * 6), HEAR)))

    def test_60_rules(self):
        self.good(("most", (("add", (ZERO,) * 29), ("add", (ZERO,) * 28))))
        self.bad(("most", (("add", (ZERO,) * 29), ("add", (ZERO,) * 29))))
        self.good(greatest_rule())
        self.bad(greatest_rule()[:1] + (greatest_rule()[1] + (ZERO,),))

    def test_8_levels(self):
        for word in ("times", "part", "from"):
            self.good(within(word, 8), within(word, 8, HEAR))
            self.bad(within(word, 9), within(word, 9, HEAR), within(word, 49))
        self.good(("least", (ZERO, within("from", 7))), ("middle", within("from", 7), ZERO, ZERO))
        self.bad(("least", (ZERO, within("from", 8))), ("middle", ZERO, ZERO, within("from", 8)))

    def test_vast_values(self):
        self.bad(("least", (ZERO,) * 33000), ("least", (("add", (ZERO,) * 300),) * 100), (1,) * 100000)

    def test_drawn_rules(self):
        rng = random.Random(5)
        for _ in range(300):
            self.good(drawn_rule(rng, 3))


class BranchesTest(unittest.TestCase):
    def test_from_left_to_right(self):
        rule = ("add", (("hear", 3), ("middle", ("hear", 1), ("is", 9), ("clip", 0, 9, ("hear", 0))),
                        ("row", (1,), ("least", (("hear", 3), ("hear", 1000))))))
        self.assertEqual(branches(rule), (3, 1, 0, 3, 1000))

    def test_none_and_one(self):
        self.assertEqual(branches(ZERO), ())
        self.assertEqual(branches(("hear", 7)), (7,))
        self.assertEqual(branches(("bar", 1, 2, 3, ("hear", 7))), (7,))

    def test_one_house_heard_several_times(self):
        self.assertEqual(branches(("most", (HEAR, HEAR, HEAR))), (0, 0, 0))


class ToldTest(unittest.TestCase):
    def tells(self, rule, heard, worth):
        self.assertTrue(is_rule(rule))
        self.assertEqual(told(rule, heard), worth)

    def test_leaves(self):
        self.tells(("is", 1000), (), 1000)
        self.tells(("hear", 7), (3,), 3)

    def test_least_and_most(self):
        rule = (("hear", 0), ("is", 4), ("hear", 0))
        self.tells(("least", rule), (7, 5), 4)
        self.tells(("least", rule), (7, 2), 2)
        self.tells(("most", rule), (7, 5), 7)
        self.tells(("most", rule), (1, 2), 4)

    def test_middle(self):
        three = ("middle", ("hear", 0), ("hear", 1), ("hear", 2))
        for heard in ((1, 5, 9), (1, 9, 5), (5, 1, 9), (5, 9, 1), (9, 1, 5), (9, 5, 1)):
            self.tells(three, heard, 5)
        self.tells(three, (4, 4, 9), 4)
        self.tells(three, (9, 1, 9), 9)
        self.tells(three, (2, 2, 2), 2)

    def test_add_and_times(self):
        self.tells(("add", (("hear", 0), ("hear", 0), ("is", 5))), (1000, 7), 1012)
        self.tells(("times", 1000, ("hear", 0)), (1000,), 1000000)
        self.tells(("times", 0, ("hear", 0)), (9,), 0)

    def test_part(self):
        self.tells(("part", 3, ("hear", 0)), (8,), 2)
        self.tells(("part", 3, ("hear", 0)), (9,), 3)
        self.tells(("part", 1, ("hear", 0)), (9,), 9)
        self.tells(("part", 1000, ("hear", 0)), (999,), 0)

    def test_clip(self):
        for heard, worth in ((0, 2), (1, 2), (2, 2), (3, 3), (5, 5), (6, 5), (1000, 5)):
            self.tells(("clip", 2, 5, ("hear", 0)), (heard,), worth)

    def test_from(self):
        for heard, worth in ((0, 5), (4, 1), (5, 0), (6, 0), (1000, 0)):
            self.tells(("from", 5, ("hear", 0)), (heard,), worth)

    def test_bar(self):
        for heard, worth in ((0, 8), (4, 8), (5, 3), (6, 3)):
            self.tells(("bar", 5, 8, 3, ("hear", 0)), (heard,), worth)
        self.tells(("bar", 0, 8, 3, ("hear", 0)), (0,), 3)

    def test_row(self):
        for heard, worth in ((0, 4), (1, 9), (2, 1), (3, 1), (1000, 1)):
            self.tells(("row", (4, 9, 1), ("hear", 0)), (heard,), worth)
        self.tells(("row", (4,), ("hear", 0)), (0,), 4)
        self.tells(("row", (4,), ("hear", 0)), (1,), 4)
        self.tells(("row", tuple(range(64)), ("hear", 0)), (63,), 63)

    def test_branches_take_what_is_theirs(self):
        rule = ("add", (("times", 100, ("hear", 5)), ("middle", ("is", 0), ("hear", 5), ("is", 10)), ("from", 1, HEAR)))
        self.tells(rule, (1, 7, 0), 108)
        self.tells(rule, (7, 1, 1), 701)

    def test_as_reckoned_another_way(self):
        rng = random.Random(11)
        for _ in range(400):
            rule = drawn_rule(rng, 20)
            heard = tuple(rng.choice((0, 1, 2, 7, 63, 64, 1000)) for _ in branches(rule))
            self.assertEqual(told(rule, heard), slowly_told(rule, heard), (rule, heard))


if __name__ == "__main__":
    unittest.main()

"""[62] and [63]: what may happen to a net while it runs, and what stays known."""

import random
import unittest

from newsbehind.beats import shown
from newsbehind.ends import next_ends
from newsbehind.errors import InvalidQuestion
from newsbehind.living import begun, closed, is_life, known, rests_in
from newsbehind.livingchanges import changed, is_change
from newsbehind.nets import is_net, net_of, with_rule
from newsbehind.resting import rests_always, the_rest
from newsbehind.rules import branches
from newsbehind.ways import are_one_way
from sampling import ODD_VALUES, Drawing, drawn_ends, drawn_lateness, drawn_past, greatest_rule, one_way, small_net, straightened
from test_traps import within

NET = net_of([8, 8], [("part", 2, ("hear", 1)), ("hear", 0)])
LIFE = (NET, 2, ((0, 0), (8, 8)), 5)
BOTH = ("row", (0, 2, 1), ("hear", 0))
# With these ends, known at age 0, house 1 is known to show from 2 to 5.
NARROW = (net_of([8, 8], [("is", 3), ("clip", 2, 5, ("hear", 0))]), 3, ((0, 2), (8, 5)), 2)


def drawn_rule(rng, houses):
    return straightened(rng, Drawing(rng, houses, 3, 4).rule(rng.choice((1, 2, 3, 5)), 8))


def drawn_change(rng, life):
    """Some change that can be made."""
    net = life[0]
    house = rng.randrange(len(net[0]))
    word = rng.choice(("wait", "rule", "house", "seen", "seen") if len(net[0]) < 5 else ("wait", "rule", "seen"))
    if word == "wait":
        return word, rng.choice((0, 1, 2, 3, 7))
    if word == "rule":
        return word, house, drawn_rule(rng, len(net[0]))
    if word == "house":
        return word, rng.choice((0, 1, 3)), drawn_rule(rng, len(net[0]) + 1)
    lows, highs = known(life)
    worth = rng.randint(lows[house], highs[house])
    return word, house, rng.randint(0, worth), rng.randint(worth, worth + 3)


def drawn_life(rng):
    net = one_way(rng, small_net(rng, houses=rng.choice((1, 2, 3))))
    return net, rng.choice((2, 3)), closed(net, drawn_ends(rng, net)), rng.choice((0, 1, 5, 9))


class IsChangeTest(unittest.TestCase):
    def told(self, is_one, value, life=LIFE):
        self.assertIs(is_change(life, value), is_one, value)
        if is_one:
            self.assertIs(is_life(changed(life, value)), True)
        else:
            with self.assertRaises(InvalidQuestion) as caught:
                changed(life, value)
            self.assertEqual(caught.exception.at, 1)

    def test_wait(self):
        for beats in (0, 1, 5, 9999, 10000):
            self.told(True, ("wait", beats))
        for beats in (10001, -1, True, False, None, "1", 1.0, (1,), 10 ** 399):
            self.told(False, ("wait", beats))

    def test_rule(self):
        for rule in (("is", 0), ("hear", 0), ("hear", 1), ("from", 9, ("hear", 0)), ("row", (1, 2), ("hear", 0)),
                     greatest_rule(2)):
            for house in 0, 1:
                self.told(True, ("rule", house, rule))
        for house in (2, -1, True, False, None, "0", (0,), 10 ** 399):
            self.told(False, ("rule", house, ("is", 0)))
        for rule in (("hear", 2), ("add", (("hear", 0), ("hear", 2))), BOTH, ("is", 1001), ("add", (greatest_rule(2),)),
                     ["is", 0],
                     ("is", True), ("least", [("is", 0)])) + ODD_VALUES:
            self.told(False, ("rule", 0, rule))

    def test_a_rule_that_goes_both_ways_somewhere(self):
        self.told(False, ("rule", 1, ("add", (("is", 1), ("row", (0, 1, 0), ("hear", 1))))))
        # Cut to a top of 0, or told within a range of one number, nothing goes both ways.
        still = (net_of([0, 8], [("is", 3), ("hear", 0)]), 2, ((0, 0), (0, 8)), 0)
        self.told(True, ("rule", 0, ("row", (0, 2, 1), ("hear", 1))), still)
        self.told(False, ("rule", 1, ("row", (0, 2, 1), ("hear", 1))), still)
        self.told(True, ("rule", 1, ("row", (0, 2, 1), ("hear", 0))), still)

    def test_house(self):
        for top, rule in ((0, ("is", 0)), (1000, ("hear", 2)), (5, ("add", (("hear", 0), ("hear", 1), ("hear", 2)))),
                          (1, greatest_rule(3))):
            self.told(True, ("house", top, rule))
        for top in (1001, -1, True, False, None, "1", (1,), 10 ** 399):
            self.told(False, ("house", top, ("is", 0)))
        for rule in (("hear", 3), BOTH, ["is", 0]) + ODD_VALUES:
            self.told(False, ("house", 3, rule))
        # What a row tells of the new house hangs on its top.
        self.told(True, ("house", 1, ("row", (0, 2, 1), ("hear", 2))))
        self.told(False, ("house", 2, ("row", (0, 2, 1), ("hear", 2))))

    def test_the_20th_and_the_21st_house(self):
        net = net_of([1] * 19, [("hear", 18)] * 19)
        life = begun(net, 2)
        change = ("house", 3, ("hear", 19))
        self.told(True, change, life)
        later = changed(life, change)
        self.assertEqual(later, ((net[0] + (3,), net[1] + (("hear", 19),)), 2, ((0,) * 20, (1,) * 19 + (3,)), 0))
        self.told(False, ("house", 3, ("hear", 20)), life)
        self.told(False, change, later)
        self.told(False, ("house", 3, ("is", 0)), later)
        self.told(True, ("rule", 19, ("is", 0)), later)

    def test_seen(self):
        self.assertEqual(known(NARROW), ((0, 2), (8, 5)))
        for low, high, is_one in ((2, 5, True), (0, 2, True), (0, 1, False), (5, 9, True), (6, 9, False),
                                  (5, 10 ** 399, True), (3, 3, True),
                                  (6, 10 ** 399, False), (0, 0, False), (4, 3, False), (9, 1, False),
                                  (10 ** 399, 10 ** 399, False)):
            self.told(is_one, ("seen", 1, low, high), NARROW)
        # What is known at this age counts, not the ends of the life.
        life = (NET, 2, ((0, 0), (8, 8)), 5)
        self.assertEqual(known(life), ((0, 0), (4, 4)))
        self.told(False, ("seen", 0, 5, 8), life)
        self.told(True, ("seen", 0, 4, 8), life)
        self.told(True, ("seen", 0, 5, 8), life[:3] + (1,))

    def test_seen_of_what_is_none(self):
        for house in (2, -1, True, False, None, "0", (0,)):
            self.told(False, ("seen", house, 0, 8))
        for odd in (-1, True, False, None, "3", 3.0, (3,), []):
            self.told(False, ("seen", 0, odd, 8))
            self.told(False, ("seen", 0, 0, odd))
            self.told(False, ("seen", 0, odd, odd))

    def test_forms(self):
        for value in (("wait",), ("wait", 1, 1), ["wait", 1], ("Wait", 1), ("waits", 1), (1, "wait"), "wait", ("rule", 0),
                      ("rule", ("is", 0)),
                      ("rule", 0, ("is", 0), 0), ["rule", 0, ("is", 0)], ("house", 3), ("house", 3, ("is", 0), 1),
                      ["house", 3, ("is", 0)],
                      ("house", 0, 3, ("is", 0)), ("seen", 0, 0), ("seen", 0, 0, 8, 8), ("seen", 0, (0, 8)),
                      ["seen", 0, 0, 8], ("", 1),
                      ("seen", 0), (("wait", 1),), (b"wait", 1), ({}, 1), ("undo",), ("fix", 0, 1)):
            self.told(False, value)
        for value in ODD_VALUES:
            self.told(False, value)
            self.told(False, (value, 1))
            self.told(value == "rule", (value, 0, ("is", 0)))


class ChangedTest(unittest.TestCase):
    def test_by_hand(self):
        self.assertEqual(changed(LIFE, ("wait", 3)), LIFE[:3] + (8,))
        self.assertEqual(changed(LIFE, ("wait", 0)), LIFE)
        self.assertEqual(changed(LIFE, ("wait", 10000)), LIFE[:3] + (10005,))
        rule = ("most", (("is", 3), ("hear", 1)))
        self.assertEqual(changed(LIFE, ("rule", 0, rule)), (with_rule(NET, 0, rule), 2, ((0, 0), (4, 4)), 0))
        self.assertEqual(known(changed(LIFE, ("seen", 0, 0, 1))), ((0, 0), (2, 4)))
        later = changed(LIFE, ("house", 7, ("hear", 0)))
        self.assertEqual(later, (net_of([8, 8, 7], list(NET[1]) + [("hear", 0)]), 2, ((0, 0, 0), (4, 4, 7)), 0))

    def test_the_same_rule_again(self):
        # It may have been the rule before, but the age is 0 again: the bounds are kept, the beats begun are lost.
        self.assertEqual(changed(LIFE, ("rule", 1, ("hear", 0))), (NET, 2, ((0, 0), (4, 4)), 0))

    def test_a_rule_that_makes_it_wider(self):
        later = changed(LIFE, ("rule", 1, ("is", 7)))
        self.assertEqual(known(later), ((0, 0), (4, 7)))
        self.assertEqual(known(changed(LIFE, ("rule", 0, ("from", 9, ("hear", 1))))), ((0, 0), (8, 8)))
        self.assertEqual(rests_in(changed(later, ("wait", 1))), 3)

    def test_seen_is_closed_anew(self):
        # House 1 goes on to show up to 8 if it hears house 0, so what was seen of it is soon lost.
        net = net_of([8, 8], [("hear", 0), ("hear", 0)])
        self.assertEqual(changed(begun(net, 2), ("seen", 1, 3, 4)), (net, 2, ((0, 0), (8, 8)), 0))
        self.assertEqual(changed(begun(net, 2), ("seen", 0, 3, 4)), (net, 2, ((3, 0), (4, 8)), 0))
        self.assertEqual(changed(NARROW, ("seen", 0, 3, 4)), NARROW[:2] + (((3, 2), (4, 5)), 0))
        self.assertEqual(changed(NARROW, ("seen", 1, 3, 4)), NARROW[:2] + (((0, 2), (8, 5)), 0))

    def test_what_each_change_makes(self):
        rng = random.Random(621)
        for _ in range(300):
            life = drawn_life(rng)
            net, d, ends, age = life
            change = drawn_change(rng, life)
            self.assertIs(is_change(life, change), True)
            lows, highs = map(list, known(life))
            if change[0] == "wait":
                self.assertEqual(changed(life, change), (net, d, ends, age + change[1]))
                continue
            tops, rules = list(net[0]), list(net[1])
            if change[0] == "rule":
                rules[change[1]] = change[2]
            elif change[0] == "house":
                tops.append(change[1])
                rules.append(change[2])
                lows.append(0)
                highs.append(change[1])
            else:
                lows[change[1]] = max(lows[change[1]], change[2])
                highs[change[1]] = min(highs[change[1]], change[3])
            later = net_of(tops, rules)
            self.assertEqual(changed(life, change), (later, d, closed(later, (tuple(lows), tuple(highs))), 0))
            self.assertIs(is_life(changed(life, change)), True)

    def test_drawn_rules_that_may_go_both_ways(self):
        rng = random.Random(622)
        seen = [0, 0]
        for _ in range(300):
            life = drawn_life(rng)
            net = life[0]
            house = rng.randrange(len(net[0]))
            rule = Drawing(rng, len(net[0]) + (rng.random() < 0.2), 3, 4).rule(rng.choice((2, 3)), 8)
            hears = all(other < len(net[0]) for other in branches(rule))
            is_one = hears and are_one_way(with_rule(net, house, rule))
            seen[is_one] += 1
            self.assertIs(is_change(life, ("rule", house, rule)), is_one)
            later = net[0] + (3,), net[1] + (rule,)
            self.assertIs(is_change(life, ("house", 3, rule)), is_net(later) and are_one_way(later))
        self.assertGreater(min(seen), 30)


class WhatStaysTest(unittest.TestCase):
    def test_wait_and_seen_make_nothing_wider(self):
        rng = random.Random(631)
        seen = 0
        for _ in range(300):
            life = drawn_life(rng)
            change = drawn_change(rng, life)
            if change[0] in ("wait", "seen"):
                seen += 1
                self.assertTrue(within(known(changed(life, change)), known(life)))
        self.assertGreater(seen, 100)

    def test_a_rule_may_make_it_wider(self):
        rng = random.Random(632)
        wider = 0
        for _ in range(300):
            life = drawn_life(rng)
            change = drawn_change(rng, life)
            if change[0] == "rule":
                wider += not within(known(changed(life, change)), known(life))
                self.assertTrue(within(known(life), known(changed(life, change))))
        self.assertGreater(wider, 5)

    def test_next_ends_of_closed_ends_are_closed(self):
        rng = random.Random(633)
        for _ in range(100):
            net, _, ends, _ = drawn_life(rng)
            later = next_ends(net, ends)
            self.assertTrue(within(next_ends(net, later), later))

    def test_all_that_was_shown_lies_within_what_is_known(self):
        rng = random.Random(634)
        for _ in range(120):
            life = begun(drawn_life(rng)[0], rng.choice((2, 3)))
            net, d = life[:2]
            states = list(drawn_past(rng, net, d))
            lateness = None
            for _ in range(10):
                net = life[0]
                change = drawn_change(rng, life)
                if change[0] == "wait":
                    for _ in range(change[1]):
                        lateness = drawn_lateness(rng, net, d, lateness)
                        states.append(shown(net, d, (tuple(states[-d:]), (lateness,)))[0])
                elif change[0] == "seen":
                    worths = [state[change[1]] for state in states[-d:]]
                    change = ("seen", change[1], min(worths) - rng.randint(0, min(worths)), max(worths) + rng.randint(0, 1))
                elif change[0] == "house":
                    states = [state + (rng.randint(0, change[1]),) for state in states]
                life = changed(life, change)
                if change[0] in ("rule", "house"):
                    # The new branches hear news as old as may be.
                    lateness = None
                lows, highs = known(life)
                for state in states[-d:]:
                    self.assertTrue(all(low <= worth <= high for low, worth, high in zip(lows, state, highs)))

    def test_it_rests_whatever_was_changed(self):
        rng = random.Random(635)
        rested = 0
        for _ in range(120):
            life = drawn_life(rng)
            for _ in range(4):
                life = changed(life, drawn_change(rng, life))
            if rests_always(life[0]):
                beats = rests_in(life)
                rested += 1
                lows, highs = known(changed(life, ("wait", beats)))
                self.assertEqual((lows, highs), (the_rest(life[0]),) * 2)
        self.assertGreater(rested, 40)


if __name__ == "__main__":
    unittest.main()

"""[3]: inputs at the limits."""

import random
import unittest

from newsbehind.beats import led_on, past_behind, shown
from newsbehind.errors import InvalidText
from newsbehind.lateness import is_run
from newsbehind.nets import is_net, knots, next_state, reached, renamed_net
from newsbehind.nettexts import net_text, net_tokens
from newsbehind.reading import completed, may_follow, read_net
from newsbehind.rules import is_rule
from newsbehind.tokens import token_places, tokens_of
from sampling import ODD_VALUES, drawn_net, drawn_run, greatest_net, greatest_rule


def deep(levels, value=()):
    for _ in range(levels):
        value = (value,)
    return value


class LimitsTest(unittest.TestCase):
    def test_the_greatest_rule(self):
        rule = greatest_rule()
        self.assertIs(is_rule(rule), True)
        self.assertIs(is_rule(("add", (rule,))), False)

    def test_the_greatest_net(self):
        net = greatest_net()
        self.assertIs(is_net(net), True)
        self.assertEqual(next_state(net, (1000,) * 20), (1000,) * 20)
        self.assertEqual(reached(net, 0), tuple(range(20)))
        self.assertEqual(len(knots(net)), 9)
        self.assertEqual(renamed_net(renamed_net(net, tuple(range(19, -1, -1))), tuple(range(19, -1, -1))), net)
        self.assertEqual(len(tokens_of(net_text(net))), len(net_tokens(net)))

    def test_vast_values_are_looked_at(self):
        for value in (deep(49), (deep(40),) * 2000, ((1, 2, 3),) * 25000, (10 ** 399,) * 90000, deep(30, (0,) * 90000)):
            for told in (is_rule(value), is_net(value), is_run(((1,), (("is", 1),)), 2, value)):
                self.assertIs(told, False)
            with self.assertRaises(InvalidText):
                read_net(value)
        self.assertIs(is_rule(("times", 10 ** 399, ("is", 1))), False)

    def test_texts_of_20000_signs(self):
        for text, many in ((" " * 20000, 0), ("\n" * 20000, 0), ("#" * 20000, 0), ("#\n" * 10000, 0), ("a" * 20000, 1),
                           ("(" * 20000, 20000), ("a " * 10000, 10000), ("\xe9" * 20000, 20000)):
            self.assertEqual((len(tokens_of(text)), len(token_places(text))), (many, many))
            self.assertEqual(may_follow(text), ("house",) if many == 0 else ())
            self.assertEqual(completed(text) is None, many > 0)
            with self.assertRaises(InvalidText) as caught:
                read_net(text)
            self.assertEqual(caught.exception.at, 0)

    def test_a_long_text_of_a_net(self):
        rng = random.Random(41)
        net = drawn_net(rng, houses=20, many=9)
        text = net_text(net)
        text += "#" * (20000 - len(text))
        self.assertEqual(read_net(text), net)
        self.assertEqual(may_follow(text), ())
        self.assertEqual(completed(text), net)

    def test_a_long_text_cut_short(self):
        tokens = net_tokens(greatest_net())
        text = " ".join(tokens)[:20000]
        many = len(tokens_of(text))
        with self.assertRaises(InvalidText) as caught:
            read_net(text)
        self.assertIn(caught.exception.at, (many, many - 1))
        head = tokens[:many - 1]
        self.assertEqual(net_tokens(completed(" ".join(head)))[:many - 1], head)

    def test_runs_of_2000_beats(self):
        rng = random.Random(42)
        net = drawn_net(rng, houses=2, many=5, most_top=9)
        run = drawn_run(rng, net, 9, 2000)
        self.assertIs(is_run(net, 9, run), True)
        states = shown(net, 9, run)
        self.assertEqual(len(states), 2000)
        self.assertEqual(past_behind(net, 9, run), states[-9:])
        self.assertEqual(led_on(net, 9, (run[0], run[1][:1000]), run[1][1000:]), run)
        behind = past_behind(net, 9, (run[0], run[1][:1000]))
        self.assertEqual(shown(net, 9, (behind, run[1][1000:])), states[1000:])

    def test_the_greatest_run(self):
        rng = random.Random(43)
        net = greatest_net()
        run = drawn_run(rng, net, 9, 2000)
        self.assertEqual(len(shown(net, 9, run)), 2000)

    def test_odd_values_in_vast_ones(self):
        for value in ODD_VALUES:
            self.assertIs(is_rule(("add", (("is", 0),) * 58 + (value,))), False)


if __name__ == "__main__":
    unittest.main()

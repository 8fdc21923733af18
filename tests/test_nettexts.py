"""[11]: nets written as tokens and texts."""

import random
import unittest

from newsbehind.nets import net_of
from newsbehind.nettexts import net_text, net_tokens
from newsbehind.tokens import tokens_of
from sampling import drawn_net, greatest_net

ZERO = ("is", 0)


class NetTokensTest(unittest.TestCase):
    def written(self, rule, words):
        net = net_of([7, 1000], [ZERO, rule])
        tokens = tuple("house 0 top 7 : 0 ; house 1 top 1000 :".split() + words.split() + [";"])
        self.assertEqual(net_tokens(net), tokens)
        self.assertEqual(tokens_of(net_text(net)), tokens)

    def test_leaves(self):
        self.written(("is", 0), "0")
        self.written(("is", 1000), "1000")
        self.written(("hear", 1), "of 1")

    def test_lists(self):
        self.written(("least", (ZERO,)), "least ( 0 )")
        self.written(("most", (ZERO, ("hear", 1))), "most ( 0 , of 1 )")
        self.written(("add", (("is", 1), ("is", 2), ("is", 3))), "add ( 1 , 2 , 3 )")

    def test_middle(self):
        self.written(("middle", ("hear", 0), ("is", 2), ("hear", 1)), "middle ( of 0 , 2 , of 1 )")

    def test_words_with_numbers(self):
        self.written(("times", 3, ("hear", 0)), "times 3 ( of 0 )")
        self.written(("part", 2, ("hear", 0)), "part 2 ( of 0 )")
        self.written(("clip", 1, 2, ("hear", 0)), "clip 1 2 ( of 0 )")
        self.written(("from", 3, ("hear", 0)), "from 3 ( of 0 )")
        self.written(("bar", 9, 0, 1, ("hear", 0)), "bar 9 0 1 ( of 0 )")

    def test_rows(self):
        self.written(("row", (4,), ("hear", 0)), "row 4 ( of 0 )")
        self.written(("row", (0, 2, 1), ("hear", 0)), "row 0 2 1 ( of 0 )")
        self.written(("row", tuple(range(64)), ZERO), "row " + " ".join(map(str, range(64))) + " ( 0 )")

    def test_rules_within_rules(self):
        self.written(("add", (("from", 3, ("least", (("hear", 0), ZERO))), ("middle", ZERO, ("part", 1, ZERO), ZERO))),
                     "add ( from 3 ( least ( of 0 , 0 ) ) , middle ( 0 , part 1 ( 0 ) , 0 ) )")

    def test_texts_have_just_the_tokens(self):
        rng = random.Random(2)
        for net in [drawn_net(rng) for _ in range(40)] + [greatest_net()]:
            self.assertIsInstance(net_text(net), str)
            self.assertEqual(tokens_of(net_text(net)), net_tokens(net))

    def test_unlike_nets_have_unlike_tokens(self):
        inner = ("hear", 0)
        rules = [ZERO, ("is", 1), inner, ("least", (inner,)), ("most", (inner,)), ("add", (inner,)), ("add", (inner,) * 2),
                 ("middle", inner, inner, inner), ("times", 1, inner), ("part", 1, inner), ("from", 1, inner),
                 ("clip", 1, 1, inner), ("bar", 1, 1, 1, inner), ("row", (1,), inner), ("row", (1, 1), inner)]
        written = {net_tokens(net_of([1], [rule])) for rule in rules}
        self.assertEqual(len(written), len(rules))
        self.assertNotEqual(net_tokens(net_of([1], [ZERO])), net_tokens(net_of([2], [ZERO])))


if __name__ == "__main__":
    unittest.main()

"""[12]: nets read from texts."""

import random
import unittest

from newsbehind.errors import InvalidText
from newsbehind.nets import is_net, net_of
from newsbehind.nettexts import net_text, net_tokens
from newsbehind.reading import read_net
from sampling import ODD_VALUES, drawn_net, greatest_net, within

ZERO = ("is", 0)
HEAD = "house 0 top 9 : "
KINDS = net_of([9, 0, 1000], [
    ("add", (("least", (("is", 1), ("hear", 0))), ("most", (("hear", 2),)), ("middle", ZERO, ("is", 10), ("hear", 1)))),
    ("clip", 3, 3, ("times", 0, ("part", 1, ("from", 1000, ("hear", 2))))),
    ("bar", 5, 1000, 0, ("row", (0, 7, 1000), ("is", 1000))),
])


def spread(rng, tokens):
    """A text with these tokens, and other signs that belong to none between them."""
    text = ""
    for token in tokens:
        text += rng.choice(("", " ", "\n", "  ", "# of 1 ;\n", "#\n", " \n #(\n ")) + " " + token
    return text + rng.choice(("", " ", "\n", "# the end", "#"))


class ReadTest(unittest.TestCase):
    def reads(self, text, net):
        self.assertEqual(read_net(text), net)
        self.assertIs(is_net(read_net(text)), True)

    def wrong(self, text, at):
        with self.assertRaises(InvalidText) as caught:
            read_net(text)
        self.assertEqual(caught.exception.at, at, text)

    def test_no_string(self):
        for value in ODD_VALUES + (b"house 0 top 2 : 1 ;", ["house 0 top 2 : 1 ;"], ("house",)):
            if not isinstance(value, str):
                self.wrong(value, 0)

    def test_nothing(self):
        for text in ("", " ", "\n", "# house 0 top 2 : 1 ;"):
            self.wrong(text, 0)

    def test_each_kind(self):
        self.reads(net_text(KINDS), KINDS)
        self.reads("house 0 top 2: clip 0 1 (of 0); # one\n", ((2,), (("clip", 0, 1, ("hear", 0)),)))
        self.reads("house 0 top 0:0;", ((0,), (ZERO,)))
        self.reads("house 0 top 1:middle(0,of 0,1);", ((1,), (("middle", ZERO, ("hear", 0), ("is", 1)),)))

    def test_read_back_with_other_signs_between(self):
        rng = random.Random(4)
        for net in [KINDS] + [drawn_net(rng, houses=rng.choice((1, 2, 3))) for _ in range(40)]:
            self.reads(net_text(net), net)
            self.reads(spread(rng, net_tokens(net)), net)

    def test_tokens_that_grow_together(self):
        self.wrong("house0 top 2 : 1 ;", 0)
        self.wrong("house 0top 2 : 1 ;", 1)
        self.wrong("house 0 top2 : 1 ;", 2)
        self.wrong("house 0 top 2 : of0 ;", 5)
        self.wrong("ho use 0 top 2 : 1 ;", 0)

    def test_each_token_wrong(self):
        tokens = net_tokens(KINDS)
        for at in range(len(tokens)):
            for other in ("?", "hear", "House", "1001", "-", "_"):
                self.wrong(" ".join(tokens[:at] + (other,) + tokens[at + 1:]), at)

    def test_cut_short(self):
        tokens = net_tokens(KINDS)
        for many in range(len(tokens)):
            # Its first house hears the third one: none of the shorter ones is a net.
            self.wrong(" ".join(tokens[:many]), many)

    def test_a_token_too_much(self):
        tokens = net_tokens(KINDS)
        for at in range(len(tokens) + 1):
            self.wrong(" ".join(tokens[:at] + ("?",) + tokens[at:]), at)
        self.wrong(" ".join(tokens + (";",)), len(tokens))
        self.wrong(" ".join(tokens + ("house",)), len(tokens) + 1)
        self.wrong(" ".join(tokens + ("house", "2")), len(tokens) + 1)
        self.wrong(" ".join(tokens + ("house", "3")), len(tokens) + 2)

    def test_a_token_too_few(self):
        tokens = "house 0 top 9 : clip 1 2 ( most ( 3 , of 0 ) ) ;".split()
        ends = (0, 1, 2, 3, 4, 6, 7, 7, 8, 9, 10, 11, 12, None, 14, 16, 16, 17)
        for at, end in enumerate(ends):
            text = " ".join(tokens[:at] + tokens[at + 1:])
            if end is None:
                # Without its "of" the house's number is a rule, too.
                self.reads(text, ((9,), (("clip", 1, 2, ("most", (("is", 3), ZERO))),)))
            else:
                self.wrong(text, end)

    def test_numbers(self):
        for text, at in (
            ("house 00 top 9 : 1 ;", 1), ("house 0 top 09 : 1 ;", 3), (HEAD + "01 ;", 5), (HEAD + "of 00 ;", 6),
            (HEAD + "1001 ;", 5), (HEAD + "10000 ;", 5), (HEAD + "9" * 5000 + " ;", 5), (HEAD + "0000 ;", 5),
            (HEAD + "- 1 ;", 5), (HEAD + "+ 1 ;", 5), (HEAD + "1 . 0 ;", 6), (HEAD + "1_0 ;", 5), (HEAD + "_1 ;", 5),
            (HEAD + "\u0661 ;", 5), (HEAD + "\uff11 ;", 5), (HEAD + "\xb2 ;", 5), (HEAD + "1\u0661 ;", 6),
            (HEAD + "1e2 ;", 5), (HEAD + "0x1 ;", 5), ("house 0 top 1001 : 1 ;", 3), ("house 0 top of : 1 ;", 3),
        ):
            self.wrong(text, at)
        self.reads("house 0 top 1000 : 1000 ;", ((1000,), (("is", 1000),)))

    def test_houses_in_order(self):
        self.wrong("house 1 top 9 : 1 ;", 1)
        self.wrong("house 0 top 9 : 1 ; house 0 top 9 : 1 ;", 8)
        self.wrong("house 0 top 9 : 1 ; house 2 top 9 : 1 ;", 8)

    def test_20_houses(self):
        entries = "".join("house %d top 1 : of 19 ;\n" % house for house in range(20))
        self.reads(entries, ((1,) * 20, (("hear", 19),) * 20))
        self.wrong(entries + "house", 160)
        self.wrong(entries + "house 20 top 1 : 1 ;", 160)

    def test_a_house_heard_that_comes_later_or_never(self):
        self.reads("house 0 top 1 : of 1 ; house 1 top 2 : 0 ;", ((1, 2), (("hear", 1), ZERO)))
        self.wrong("house 0 top 1 : of 1 ;", 8)
        self.wrong("house 0 top 1 : of 1 ; house 1 top 2 : of 2 ;", 16)
        self.wrong("house 0 top 1 : of 19 ;", 8)
        self.wrong("house 0 top 1 : of 20 ;", 6)
        self.wrong("house 0 top 1 : least ( of 1 , of 0 ) ;", 14)

    def test_part_and_clip(self):
        self.wrong(HEAD + "part 0 ( 1 ) ;", 6)
        self.reads(HEAD + "part 1 ( 1 ) ;", ((9,), (("part", 1, ("is", 1)),)))
        self.wrong(HEAD + "clip 5 4 ( 1 ) ;", 7)
        self.wrong(HEAD + "clip 1000 999 ( 1 ) ;", 7)
        self.reads(HEAD + "clip 5 5 ( 1 ) ;", ((9,), (("clip", 5, 5, ("is", 1)),)))
        self.reads(HEAD + "bar 5 4 3 ( 1 ) ;", ((9,), (("bar", 5, 4, 3, ("is", 1)),)))

    def test_12_branches(self):
        self.reads(HEAD + "add ( " + " , ".join(["of 0"] * 12) + " ) ;", ((9,), (("add", (("hear", 0),) * 12),)))
        self.wrong(HEAD + "add ( " + " , ".join(["of 0"] * 13) + " ) ;", 7 + 3 * 12)
        self.wrong(HEAD + "add ( " + " , ".join(["of 0"] * 12) + " , from 1 ( of 0 ) ) ;", 7 + 3 * 12 + 3)

    def test_60_rules(self):
        self.reads(HEAD + "add ( " + " , ".join(["0"] * 59) + " ) ;", ((9,), (("add", (ZERO,) * 59),)))
        # The sign ahead of the 60th inner rule is the wrong token: no rule has room behind it.
        self.wrong(HEAD + "add ( " + " , ".join(["0"] * 60) + " ) ;", 7 + 2 * 59 - 1)
        inner = " , ".join(["0"] * 56)
        self.reads(HEAD + "add ( " + inner + " , least ( 0 , 0 ) ) ;",
                   ((9,), (("add", (ZERO,) * 56 + (("least", (ZERO, ZERO)),)),)))
        self.wrong(HEAD + "add ( " + inner + " , middle ( 0 , 0 , 0 ) ) ;", 7 + 2 * 56)
        self.wrong(HEAD + "add ( " + inner + " , 0 , 0 , least ( 0 ) ) ;", 7 + 2 * 58)

    def test_8_levels(self):
        self.reads(HEAD + "from 1 ( " * 7 + "of 0 " + ") " * 7 + ";", ((9,), (within("from", 8, ("hear", 0)),)))
        for word in ("from 1 ( 0 )", "least ( 0 )", "middle ( 0 , 0 , 0 )", "row 1 ( 0 )"):
            self.wrong(HEAD + "from 1 ( " * 7 + word + " ) " * 7 + ";", 5 + 3 * 7)

    def test_64_worths(self):
        worths = " ".join(["7"] * 64)
        self.reads(HEAD + "row " + worths + " ( 0 ) ;", ((9,), (("row", (7,) * 64, ZERO),)))
        self.wrong(HEAD + "row " + worths + " 7 ( 0 ) ;", 6 + 64)
        self.wrong(HEAD + "row ( 0 ) ;", 6)

    def test_the_words_of_values_are_none_of_texts(self):
        for word in ("is 0", "hear 0", "house", "top"):
            self.wrong(HEAD + word + " ;", 5)

    def test_the_greatest_net(self):
        self.reads(net_text(greatest_net()), greatest_net())

    def test_any_text_is_read_or_wrong_within_it(self):
        rng = random.Random(12)
        for _ in range(300):
            tokens = list(net_tokens(drawn_net(rng, houses=rng.choice((1, 2)), many=rng.choice((1, 2, 5, 9)))))
            for _ in range(rng.choice((1, 2))):
                tokens[rng.randrange(len(tokens))] = rng.choice(tokens + ["0", ",", ")", "of", "middle"])
            try:
                net = read_net(" ".join(tokens))
            except InvalidText as error:
                self.assertIn(error.at, range(len(tokens) + 1))
            else:
                self.assertEqual(net_tokens(net), tuple(tokens))
                self.assertIs(is_net(net), True)


if __name__ == "__main__":
    unittest.main()

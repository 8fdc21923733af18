"""[13]: what may come next in a text, and texts completed."""

import random
import unittest

from newsbehind.errors import InvalidText
from newsbehind.nets import is_net, net_of
from newsbehind.nettexts import net_text, net_tokens
from newsbehind.reading import completed, may_follow, read_net
from newsbehind.tokens import tokens_of
from sampling import drawn_net, greatest_net

HEAD = "house 0 top 9 : "
NUMBERS = tuple(sorted(str(number) for number in range(1001)))
HOUSES = tuple(sorted(str(number) for number in range(20)))
WORDS = ("add", "bar", "clip", "from", "least", "middle", "most", "of", "part", "row", "times")
FEW_WORDS = tuple(word for word in WORDS if word != "middle")


class MayFollowTest(unittest.TestCase):
    def follow(self, text, tokens):
        self.assertEqual(may_follow(text), tokens, text)
        self.completes(text)

    def completes(self, text):
        net = completed(text)
        self.assertIs(is_net(net), True, text)
        tokens = tokens_of(text)
        self.assertEqual(net_tokens(net)[:len(tokens)], tokens)

    def none(self, text):
        self.assertEqual(may_follow(text), (), text)
        self.assertIsNone(completed(text), text)

    def test_entries(self):
        self.follow("", ("house",))
        self.follow("# remark", ("house",))
        self.follow("house", ("0",))
        self.follow("house 0", ("top",))
        self.follow("house 0 top", NUMBERS)
        self.follow("house 0 top 1000", (":",))
        self.follow("house 0 top 9 :", NUMBERS + WORDS)
        self.follow(HEAD + "4", (";",))
        self.follow(HEAD + "4 ;", ("house",))
        self.follow(HEAD + "4 ; house", ("1",))
        self.follow(HEAD + "4 ; house 1 top 3 : of 0", (";",))

    def test_branches(self):
        self.follow(HEAD + "of", HOUSES)
        self.follow(HEAD + "of 19", (";",))
        self.follow(HEAD + "of 19 ;", ("house",))
        self.follow(HEAD + "of 0 ;", ("house",))

    def test_lists(self):
        for word in ("least", "most", "add"):
            self.follow(HEAD + word, ("(",))
            self.follow(HEAD + word + " (", NUMBERS + WORDS)
            self.follow(HEAD + word + " ( 1", (")", ","))
            self.follow(HEAD + word + " ( 1 ,", NUMBERS + WORDS)
            self.follow(HEAD + word + " ( 1 , of 0 )", (";",))

    def test_middle(self):
        self.follow(HEAD + "middle", ("(",))
        self.follow(HEAD + "middle (", NUMBERS + WORDS)
        self.follow(HEAD + "middle ( 1", (",",))
        self.follow(HEAD + "middle ( 1 ,", NUMBERS + WORDS)
        self.follow(HEAD + "middle ( 1 , 2", (",",))
        self.follow(HEAD + "middle ( 1 , 2 , 3", (")",))
        self.follow(HEAD + "middle ( 1 , 2 , 3 )", (";",))

    def test_words_with_numbers(self):
        for word, many in (("times", 1), ("part", 1), ("clip", 2), ("from", 1), ("bar", 3)):
            for count in range(many):
                least = NUMBERS if word != "part" else tuple(number for number in NUMBERS if number != "0")
                self.follow(HEAD + word + " 0" * count, least)
            self.follow(HEAD + word + " 1" * many, ("(",))
            self.follow(HEAD + word + " 1" * many + " (", NUMBERS + WORDS)
            self.follow(HEAD + word + " 1" * many + " ( 2", (")",))
            self.follow(HEAD + word + " 1" * many + " ( 2 )", (";",))

    def test_clip(self):
        self.follow(HEAD + "clip 998", ("1000", "998", "999"))
        self.follow(HEAD + "clip 1000", ("1000",))
        self.assertEqual(len(may_follow(HEAD + "clip 5")), 996)

    def test_bar_in_any_order(self):
        self.follow(HEAD + "bar 5 1000", NUMBERS)

    def test_rows(self):
        self.follow(HEAD + "row", NUMBERS)
        self.follow(HEAD + "row 1", ("(",) + NUMBERS)
        self.follow(HEAD + "row" + " 1" * 63, ("(",) + NUMBERS)
        self.follow(HEAD + "row" + " 1" * 64, ("(",))
        self.follow(HEAD + "row 1 (", NUMBERS + WORDS)

    def test_12_branches(self):
        text = HEAD + "add ( " + "of 0 , " * 11
        self.follow(text, NUMBERS + WORDS)
        self.follow(text + "of 0 ,", NUMBERS + tuple(word for word in WORDS if word != "of"))
        self.follow(text + "of 0 , from 1 ( 0 ) ) ; house 1 top 1 :", NUMBERS + WORDS)

    def test_60_rules(self):
        text = HEAD + "add ( "
        self.follow(text + "0 , " * 55, NUMBERS + WORDS)
        self.follow(text + "0 , " * 56, NUMBERS + FEW_WORDS)
        self.follow(text + "0 , " * 57, NUMBERS + FEW_WORDS)
        self.follow(text + "0 , " * 58, NUMBERS + ("of",))
        self.follow(text + "0 , " * 58 + "0", (")",))
        self.follow(text + "0 , " * 57 + "0", (")", ","))
        self.follow(text + "0 , " * 57 + "least ( 0", (")",))
        self.follow(text + "0 , " * 56 + "least ( 0", (")", ","))

    def test_room_for_what_is_owed(self):
        text = HEAD + "middle ( add ( "
        self.follow(text + "0 , " * 52, NUMBERS + WORDS)
        self.follow(text + "0 , " * 53, NUMBERS + FEW_WORDS)
        self.follow(text + "0 , " * 54, NUMBERS + FEW_WORDS)
        self.follow(text + "0 , " * 54 + "0", (")", ","))
        self.follow(text + "0 , " * 55, NUMBERS + ("of",))
        self.follow(text + "0 , " * 55 + "0", (")",))
        self.follow(text + "0 , " * 54 + "0 ) , ", NUMBERS + FEW_WORDS)
        self.follow(text + "0 , " * 54 + "0 ) , most ( 0", (")",))
        self.follow(text + "0 , " * 55 + "0 ) , 0 , ", NUMBERS + ("of",))
        self.none(text + "0 , " * 56)

    def test_8_levels(self):
        self.follow(HEAD + "from 1 ( " * 6, NUMBERS + WORDS)
        self.follow(HEAD + "from 1 ( " * 7, NUMBERS + ("of",))
        self.follow(HEAD + "least ( " * 6 + "middle ( 0 , ", NUMBERS + ("of",))
        self.follow(HEAD + "from 1 ( " * 6 + "least ( 0 ) ", (")",))

    def test_20_houses(self):
        entries = ["house %d top 1 : %d ; " % (house, house) for house in range(20)]
        self.follow("".join(entries[:19]), ("house",))
        self.follow("".join(entries[:19]) + "house", ("19",))
        self.follow("".join(entries), ())
        self.follow("".join(entries[:19]) + "house 19 top 1 : of", HOUSES)

    def test_behind_a_wrong_token(self):
        for text in ("x", "0", ";", "house 1", "house 0 0", "house 0 top 1001", HEAD + ";", HEAD + "4 4", HEAD + "is",
                     HEAD + "of 20", HEAD + "part 0", HEAD + "clip 5 4", HEAD + "row (", HEAD + "4 ; ;", HEAD + "05",
                     HEAD + "from 1 ( " * 7 + "least", HEAD + "add ( " + "0 , " * 59, HEAD + "\u0664", "house 0 top 9 : 4 ; x",
                     HEAD + "least ( )", HEAD + "middle ( 1 )", HEAD + "middle ( 1 , 2 , 3 ,", HEAD + "times 1 ( 1 ,"):
            self.none(text)
            self.none(text + " 0")
            self.none(text + " house 0 top 9 : 4 ;")

    def test_all_places_of_nets(self):
        """What comes next in some net is told; a wrong token is not, and nothing behind it."""
        rng = random.Random(6)
        for many in (1, 2, 4, 9, 30, 59, 60, 60, 60):
            tokens = net_tokens(drawn_net(rng, houses=rng.choice((1, 2)), many=many))
            for at in sorted(rng.sample(range(len(tokens)), min(60, len(tokens)))):
                text = " ".join(tokens[:at])
                self.assertIn(tokens[at], may_follow(text), text)
                self.completes(text)
            self.assertEqual(may_follow(" ".join(tokens)), ("house",))

    def test_all_that_is_told_leads_to_a_net(self):
        rng = random.Random(7)
        for many in (3, 9, 58, 60, 60, 60):
            tokens = net_tokens(drawn_net(rng, houses=1, many=many))
            for at in rng.sample(range(len(tokens) + 1), min(25, len(tokens) + 1)):
                told = may_follow(" ".join(tokens[:at]))
                self.assertEqual(told, tuple(sorted(set(told))))
                words = [token for token in told if not token.isdigit()]
                for token in words + [token for token in told if token not in words][:3] + list(told[-1:]):
                    self.completes(" ".join(tokens[:at] + (token,)))

    def test_all_else_leads_to_none(self):
        rng = random.Random(8)
        signs = NUMBERS[:3] + WORDS + ("house", "top", ":", ";", "(", ")", ",", "1001", "00", "x", "?", "999", "19", "20")
        for many in (3, 9, 58, 60, 60):
            tokens = net_tokens(drawn_net(rng, houses=1, many=many))
            for at in rng.sample(range(len(tokens) + 1), min(25, len(tokens) + 1)):
                text = " ".join(tokens[:at])
                told = may_follow(text)
                for sign in signs:
                    if sign in told:
                        self.completes(text + " " + sign)
                    else:
                        self.none(text + " " + sign)
                        with self.assertRaises(InvalidText) as caught:
                            read_net(text + " " + sign)
                        self.assertEqual(caught.exception.at, at)

    def test_a_whole_net_is_completed_by_itself_or_more(self):
        rng = random.Random(9)
        for net in [drawn_net(rng) for _ in range(20)] + [greatest_net()]:
            self.completes(net_text(net))

    def test_the_greatest_net(self):
        self.follow(net_text(greatest_net()), ())
        self.follow(net_text(net_of(*[part[:1] for part in (greatest_net()[0], (("is", 1),))])), ("house",))


if __name__ == "__main__":
    unittest.main()

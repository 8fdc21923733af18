"""[10]: tokens and their places."""

import random
import unittest

from newsbehind.tokens import token_places, tokens_of

WORD = "abcdefghijklmnopqrstuvwxyzABCDEFGHIJKLMNOPQRSTUVWXYZ0123456789_"


def slowly_cut(text):
    """Tokens with their places, told sign by sign."""
    tokens, remark, last = [], False, None
    for at, sign in enumerate(text):
        remark = sign != "\n" and (remark or sign == "#")
        kind = None if remark or sign in " \n" else "word" if sign in WORD else "sign"
        if kind == "word" and last == "word":
            tokens[-1] = (tokens[-1][0] + sign, tokens[-1][1])
        elif kind is not None:
            tokens.append((sign, at))
        last = kind
    return tuple(tokens)


class TokensTest(unittest.TestCase):
    def cut(self, text, tokens, places):
        self.assertEqual(tokens_of(text), tokens)
        self.assertEqual(token_places(text), places)

    def test_nothing(self):
        for text in ("", " ", "\n", " \n\n  ", "#", "# a", "#\n", " # a # b\n#;", "#house 0"):
            self.cut(text, (), ())

    def test_blanks_and_newlines(self):
        self.cut("a b", ("a", "b"), (0, 2))
        self.cut("  a\n\n b \n", ("a", "b"), (2, 6))
        self.cut("a\nb", ("a", "b"), (0, 2))

    def test_remarks(self):
        self.cut("a#b", ("a",), (0,))
        self.cut("a #b\n;", ("a", ";"), (0, 5))
        self.cut("a#b\nc#d\ne", ("a", "c", "e"), (0, 4, 8))
        self.cut("a # b # c", ("a",), (0,))
        self.cut("#\na", ("a",), (2,))
        self.cut("ab#\ncd", ("ab", "cd"), (0, 4))

    def test_runs_of_letters_and_digits(self):
        self.cut("house12", ("house12",), (0,))
        self.cut("12house", ("12house",), (0,))
        self.cut("a_B9 _", ("a_B9", "_"), (0, 5))
        self.cut(WORD, (WORD,), (0,))
        self.cut("007 7", ("007", "7"), (0, 4))

    def test_other_signs(self):
        self.cut("(of 1);", ("(", "of", "1", ")", ";"), (0, 1, 4, 5, 6))
        self.cut("a-b::", ("a", "-", "b", ":", ":"), (0, 1, 2, 3, 4))
        others = [sign for sign in map(chr, range(33, 127)) if sign not in WORD + "#"]
        self.cut("".join(others), tuple(others), tuple(range(len(others))))
        self.cut("x".join(others), tuple("x".join(others)), tuple(range(2 * len(others) - 1)))

    def test_only_spaces_and_newlines_are_blanks(self):
        for sign in "\t\r\v\f\x00\x1c\x85\xa0\u2003\u2028\ufeff":
            self.cut(sign, (sign,), (0,))
            self.cut("a" + sign + "b", ("a", sign, "b"), (0, 1, 2))
            self.cut("#a" + sign + "b\nc", ("c",), (5,))

    def test_beyond_ascii(self):
        for sign in "\xe9\xdf\xb2\u0661\u0967\uff11\u4e00\u0301\U0001f600\ud800\U0001d7d9":
            self.cut(sign * 2, (sign, sign), (0, 1))
            self.cut("a" + sign + "1", ("a", sign, "1"), (0, 1, 2))

    def test_as_cut_sign_by_sign(self):
        rng = random.Random(1)
        for _ in range(1500):
            text = "".join(rng.choice("ab9_ \n#;(\xe9\t") for _ in range(rng.randrange(25)))
            cut = slowly_cut(text)
            self.cut(text, tuple(token for token, _ in cut), tuple(at for _, at in cut))

    def test_tokens_stand_at_their_places(self):
        text = "house 0 top 3 : # all\n  most(1,of 0);"
        for token, at in zip(tokens_of(text), token_places(text)):
            self.assertTrue(text.startswith(token, at))


if __name__ == "__main__":
    unittest.main()

"""Tokens: the pieces that a text of a net is made of."""

BLANKS = " \n"
WORD_SIGNS = "abcdefghijklmnopqrstuvwxyzABCDEFGHIJKLMNOPQRSTUVWXYZ_0123456789"
DIGITS = "0123456789"


def _behind_remark(text, at):
    end = text.find("\n", at)
    return len(text) if end < 0 else end


def _behind_token(text, at):
    end = at
    while end < len(text) and text[end] in WORD_SIGNS:
        end += 1
    # A sign that belongs to no word is a token by itself.
    return max(end, at + 1)


def _spans(text):
    """For each token the index of its first sign, and the one behind its last sign."""
    spans = []
    at = 0
    while at < len(text):
        if text[at] in BLANKS:
            at += 1
        elif text[at] == "#":
            at = _behind_remark(text, at)
        else:
            end = _behind_token(text, at)
            spans.append((at, end))
            at = end
    return spans


def tokens_of(text):
    """The tokens of a text, in order."""
    return tuple([text[start:end] for start, end in _spans(text)])


def token_places(text):
    """For each token of a text the index of its first sign."""
    return tuple([start for start, _ in _spans(text)])


def number_of(word, most_digits):
    """The number that a word of at most so many digits stands for, without leading zeros; -1 if there is none."""
    # Python reads digits of other scripts, too; here they stand for nothing.
    if not 1 <= len(word) <= most_digits or not all(sign in DIGITS for sign in word):
        return -1
    number = int(word)
    return number if str(number) == word else -1

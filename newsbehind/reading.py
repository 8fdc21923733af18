"""Reading nets from texts, and what may come next in a text."""

from newsbehind.basics import MOST_NUMBER
from newsbehind.drafts import NetDraft
from newsbehind.errors import InvalidText
from newsbehind.tokens import number_of, tokens_of


def _may_take(draft, token):
    words, low, high = draft.follow()
    return token in words or low <= number_of(token, len(str(MOST_NUMBER))) <= high


def _drafted(tokens):
    """A pair: the draft of the first tokens, as many as are the first ones of some net, and their number."""
    draft = NetDraft()
    for at, token in enumerate(tokens):
        if not _may_take(draft, token):
            return draft, at
        draft.take(token)
    return draft, len(tokens)


def _plainest(draft):
    """The token that may come next and leads to an end the soonest."""
    words, low, high = draft.follow()
    for sign in ("(", ")"):
        if sign in words:
            return sign
    return str(low) if low <= high else words[0]


def read_net(text):
    """The net with just the tokens of a text."""
    if not isinstance(text, str):
        raise InvalidText(0)
    tokens = tokens_of(text)
    draft, many = _drafted(tokens)
    if many < len(tokens) or not draft.is_whole():
        raise InvalidText(many)
    return draft.made()


def may_follow(text):
    """The tokens that may come next behind those of a text, ascending as strings."""
    tokens = tokens_of(text)
    draft, many = _drafted(tokens)
    if many < len(tokens):
        return ()
    words, low, high = draft.follow()
    return tuple(sorted(list(words) + [str(number) for number in range(low, high + 1)]))


def completed(text):
    """A net whose first tokens are those of a text, None if there is none."""
    tokens = tokens_of(text)
    draft, many = _drafted(tokens)
    if many < len(tokens):
        return None
    while not draft.is_whole():
        draft.take(_plainest(draft))
    return draft.made()

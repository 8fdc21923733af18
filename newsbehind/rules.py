"""Rules: what a house makes of what it hears."""

from newsbehind.basics import MOST_BRANCHES, MOST_LEVELS, MOST_NUMBER, MOST_RULES, is_integer_in
from newsbehind.ruleforms import LEAF_WORDS, LIST_WORDS, NUMBER_COUNTS, inner_rules, least_number


def _numbers_fit(word, numbers):
    fewest, most = NUMBER_COUNTS[word]
    if not fewest <= len(numbers) <= most:
        return False
    for at, number in enumerate(numbers):
        if not is_integer_in(number, least_number(word, numbers[:at]), MOST_NUMBER):
            return False
    return True


def _has_form(value):
    """Whether any value looks like a rule, whatever stands in it as inner rules."""
    if not isinstance(value, tuple) or len(value) == 0 or not isinstance(value[0], str):
        return False
    word = value[0]
    if word in LEAF_WORDS:
        return len(value) == 2 and is_integer_in(value[1], 0, MOST_NUMBER)
    if word in LIST_WORDS:
        return len(value) == 2 and isinstance(value[1], tuple) and len(value[1]) > 0
    if word == "middle":
        return len(value) == 4
    if word == "row":
        return len(value) == 3 and isinstance(value[1], tuple) and _numbers_fit(word, value[1])
    return word in NUMBER_COUNTS and _numbers_fit(word, value[1:-1])


def is_rule(value):
    """Whether any value is a rule."""
    waiting = [(value, 1)]
    seen = 0
    heard = 0
    while waiting:
        part, level = waiting.pop()
        seen += 1
        # Rules are counted on the way, so that no vast value is looked at in full.
        if level > MOST_LEVELS or seen + len(waiting) > MOST_RULES or not _has_form(part):
            return False
        if part[0] == "hear":
            heard += 1
        for inner in inner_rules(part):
            waiting.append((inner, level + 1))
    return heard <= MOST_BRANCHES


def branches(rule):
    """The houses that a rule hears, in the order of its branches."""
    if rule[0] == "hear":
        return (rule[1],)
    houses = []
    for part in inner_rules(rule):
        houses.extend(branches(part))
    return tuple(houses)


def _least(rule, worths):
    return min(worths)


def _most(rule, worths):
    return max(worths)


def _middle(rule, worths):
    return sorted(worths)[1]


def _sum(rule, worths):
    return sum(worths)


def _times(rule, worths):
    return rule[1] * worths[0]


def _part(rule, worths):
    return worths[0] // rule[1]


def _clip(rule, worths):
    return min(max(worths[0], rule[1]), rule[2])


def _from(rule, worths):
    return max(rule[1] - worths[0], 0)


def _bar(rule, worths):
    return rule[3] if worths[0] >= rule[1] else rule[2]


def _row(rule, worths):
    return rule[1][min(worths[0], len(rule[1]) - 1)]


TELLING = {
    "least": _least,
    "most": _most,
    "middle": _middle,
    "add": _sum,
    "times": _times,
    "part": _part,
    "clip": _clip,
    "from": _from,
    "bar": _bar,
    "row": _row,
}


def told_of(rule, worths):
    """What a rule that is no leaf makes of what its inner rules tell, from left to right."""
    tell = TELLING[rule[0]]
    return tell(rule, worths)


def _told_from(rule, heard, at):
    """A pair: what a rule tells whose first branch is the one with the number at, and the number behind its last."""
    word = rule[0]
    if word == "is":
        return rule[1], at
    if word == "hear":
        return heard[at], at + 1
    worths = []
    for part in inner_rules(rule):
        worth, at = _told_from(part, heard, at)
        worths.append(worth)
    return told_of(rule, worths), at


def told(rule, heard):
    """What a rule tells if its branches, in order, bring what was heard."""
    return _told_from(rule, heard, 0)[0]

"""Ways of branches: whether a house wants more or less if a branch brings more."""

from newsbehind.errors import InvalidQuestion, Refused
from newsbehind.ranges import cut_range, leaf_range, range_over, row_entries
from newsbehind.ruleforms import inner_rules
from newsbehind.rules import branches


def _row_way(entries):
    steps = list(zip(entries, entries[1:]))
    falls = any(later < entry for entry, later in steps)
    if falls and any(later > entry for entry, later in steps):
        return "both"
    return "falls" if falls else "rises"


def _rule_way(rule, ranges):
    """Where a rule goes if what its inner rules tell, within these ranges, gets more."""
    word = rule[0]
    if word == "row":
        return _row_way(row_entries(rule, ranges[0]))
    if word == "from" or (word == "bar" and rule[2] > rule[3]):
        return "falls"
    return "rises"


def _way_behind(way, word):
    """The word of a branch behind a rule that goes this way, the branch having that word ahead of it."""
    if word == "none":
        return word
    if "both" in (way, word):
        return "both"
    return "rises" if way == word else "falls"


def _none_if_still(words, ends):
    """The words of branches, "none" for all of them if a rule or house over them has a range of one number."""
    return ["none"] * len(words) if ends[0] == ends[1] else words


def _words_within(net, rule):
    """A pair: the range of a rule, and the words of its branches as far as they are told within this rule."""
    inner = inner_rules(rule)
    if not inner:
        ends = leaf_range(net, rule)
        return ends, _none_if_still(["rises"] if rule[0] == "hear" else [], ends)
    told_within = [_words_within(net, part) for part in inner]
    ranges = [pair[0] for pair in told_within]
    way = _rule_way(rule, ranges)
    words = [_way_behind(way, word) for pair in told_within for word in pair[1]]
    ends = range_over(rule, ranges)
    return ends, _none_if_still(words, ends)


def ways(net, house):
    """For each branch of a house's rule its word: "none", "both", "falls" or "rises"."""
    ends, words = _words_within(net, net[1][house])
    return tuple(_none_if_still(words, cut_range(ends, net[0][house])))


def are_one_way(net):
    """Whether no branch has the word "both"."""
    return all("both" not in ways(net, house) for house in range(len(net[0])))


def one_way_words(net):
    """For each house the words of its branches; refused by the least house that has one with the word "both"."""
    words = tuple([ways(net, house) for house in range(len(net[0]))])
    for house, row in enumerate(words):
        if "both" in row:
            raise Refused(house)
    return words


def end_rows(heard_houses, words, lows, highs):
    """The pair of what branches with these words hear at the low end of their house and at its high one."""
    pairs = list(zip(heard_houses, words))
    low_row = tuple([highs[other] if word == "falls" else lows[other] for other, word in pairs])
    high_row = tuple([lows[other] if word == "falls" else highs[other] for other, word in pairs])
    return low_row, high_row


def end_heard(net, house, lows, highs):
    """The pair of the rows hearing which a house wants least and most, if all shows lie between two states."""
    words = ways(net, house)
    if "both" in words:
        raise InvalidQuestion(1)
    return end_rows(branches(net[1][house]), words, lows, highs)

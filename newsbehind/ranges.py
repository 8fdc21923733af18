"""Ranges: between which numbers lies what a rule can tell."""

from newsbehind.ruleforms import inner_rules
from newsbehind.rules import told_of


def row_entries(rule, ends):
    """The entries that a row tells for the numbers of a range, in order."""
    low, high = ends
    # The range may be vast; all numbers from the last index on tell the last entry, so it is taken once for them.
    last = len(rule[1]) - 1
    return rule[1][min(low, last):min(high, last) + 1]


def leaf_range(net, rule):
    """The range of a rule in which no other one stands."""
    word, number = rule
    return (number, number) if word == "is" else (0, net[0][number])


def range_over(rule, ranges):
    """The range of a rule whose inner rules have these ranges."""
    if rule[0] == "row":
        entries = row_entries(rule, ranges[0])
        return min(entries), max(entries)
    # What falls ("from", some bars) tells less for the high ends than for the low ones.
    low, high = sorted([told_of(rule, [ends[0] for ends in ranges]), told_of(rule, [ends[1] for ends in ranges])])
    return low, high


def cut_range(ends, top):
    """A range with both ends cut to a top."""
    return min(ends[0], top), min(ends[1], top)


def range_of(net, rule):
    """A pair of numbers: the least and the greatest that a rule may tell, told from within outwards."""
    inner = inner_rules(rule)
    if not inner:
        return leaf_range(net, rule)
    return range_over(rule, [range_of(net, part) for part in inner])


def house_range(net, house):
    """The range of a house's rule, both ends cut to its top."""
    return cut_range(range_of(net, net[1][house]), net[0][house])

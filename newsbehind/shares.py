"""Shares: how much of what news tells is left of it, round by round."""

from newsbehind.pricing import are_prices_for, are_swinging_for, price_sums
from newsbehind.ratios import fraction, greatest_ratio, is_fraction, ratio_less, ratio_product, ratio_sum
from newsbehind.swingrows import priced_for

HALF = (1, 2)


def priced_below(net, by):
    """A pair: "prices" and some for a share, or "swing" and some for it."""
    return priced_for(net, by)


def are_below(net, by, value):
    """Whether any value is such a pair for a share."""
    if not isinstance(value, tuple) or len(value) != 2:
        return False
    word, numbers = value
    if word == "prices":
        return are_prices_for(net, by, numbers)
    return word == "swing" and are_swinging_for(net, by, numbers)


def share_between(net, halvings):
    """A tuple (low, high, prices, swing): two shares with the least one between them, and what shows it."""
    ones = (1,) * len(net[0])
    low = fraction(0, 1)
    high = ratio_sum(greatest_ratio(list(price_sums(net, ones))), (1, 1))
    prices = priced_for(net, high)[1]
    swing = ones
    for _ in range(halvings):
        between = ratio_product(ratio_sum(low, high), HALF)
        word, numbers = priced_for(net, between)
        if word == "prices":
            high = between
            prices = numbers
        else:
            low = between
            swing = numbers
    return low, high, prices, swing


def is_share_paper(net, value):
    """Whether any value is a tuple that shows between which two shares the least one lies."""
    if not isinstance(value, tuple) or len(value) != 4:
        return False
    low, high, prices, swing = value
    if not is_fraction(low) or not is_fraction(high) or low[0] < 0 or not ratio_less(low, high):
        return False
    return are_prices_for(net, high, prices) and are_swinging_for(net, low, swing)

"""Prices and swings: what shows that a table net comes to one rest, or that it doesn't."""

from newsbehind.basics import is_integer
from newsbehind.swingrows import pivots_for, priced_for, row_sum

ONE = (1, 1)


def price_sums(net, prices):
    """For each house the sum of its entries, without their signs, each times the price of its house."""
    return tuple([row_sum(row, prices) for row in net[0]])


def _are_numbers(net, value, least):
    if not isinstance(value, tuple) or len(value) != len(net[0]):
        return False
    return all(is_integer(entry) and entry >= least for entry in value)


def are_prices_for(net, by, value):
    """Whether any value is integers from 1 on with each sum less than so many times the house's own."""
    if not _are_numbers(net, value, 1):
        return False
    return all(a * by[1] < by[0] * price * d for (a, d), price in zip(price_sums(net, value), value))


def are_swinging_for(net, by, value):
    """Whether any value is numbers, not all 0, with no sum less than so many times the house's own."""
    if not _are_numbers(net, value, 0) or max(value) == 0:
        return False
    return all(a * by[1] >= by[0] * number * d for (a, d), number in zip(price_sums(net, value), value))


def are_prices(net, value):
    """Whether any value is prices of a table net."""
    return are_prices_for(net, ONE, value)


def are_swinging(net, value):
    """Whether any value is a swing of a table net."""
    return are_swinging_for(net, ONE, value)


def priced(net):
    """A pair: "prices" and some, or "swing" and some."""
    return priced_for(net, ONE)


def pivots(net):
    """The entries on the diagonal by which each row is taken from later ones, up to the first not above 0."""
    return pivots_for(net, ONE)

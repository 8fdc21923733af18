"""Fractions: pairs (a, d) of integers, d from 1 on, in lowest terms."""

from math import gcd, lcm

from newsbehind.basics import is_integer


def fraction(a, d):
    """The fraction for a / d."""
    shared = gcd(a, d)
    if d < 0:
        shared = -shared
    return a // shared, d // shared


def is_fraction(value):
    """Whether any value is a fraction."""
    if not isinstance(value, tuple) or len(value) != 2:
        return False
    a, d = value
    return is_integer(a) and is_integer(d) and d >= 1 and gcd(a, d) == 1


def ratio_sum(one, other):
    """The sum of two fractions."""
    return fraction(one[0] * other[1] + other[0] * one[1], one[1] * other[1])


def ratio_product(one, other):
    """One fraction times another one."""
    return fraction(one[0] * other[0], one[1] * other[1])


def ratio_less(one, other):
    """Whether a fraction is less than another one."""
    return one[0] * other[1] < other[0] * one[1]


def greatest_ratio(ratios):
    """The greatest one of a list of fractions, one or more."""
    greatest = ratios[0]
    for ratio in ratios:
        if ratio_less(greatest, ratio):
            greatest = ratio
    return greatest


def over_common(ratios):
    """A pair: a list of integers and a number, which each of them is to be divided by to give these fractions."""
    common = 1
    for _, d in ratios:
        common = lcm(common, d)
    return [a * (common // d) for a, d in ratios], common

"""Prices and swings for any share, by one elimination."""

from math import gcd

from newsbehind.eliminations import solved, taken_from
from newsbehind.ratios import fraction, greatest_ratio, over_common


def _sizes(row):
    """The fractions of a row without their signs."""
    return [(abs(a), d) for a, d in row]


def row_sum(row, numbers):
    """The sum of the entries of a row, without their signs, each times its number."""
    sizes, common = over_common(_sizes(row))
    return fraction(sum([size * number for size, number in zip(sizes, numbers)]), common)


def _scaled_rows(net, by):
    """For each house its row of the table that has the share less the entry on the diagonal, then a 1.

    Each is a pair: the integers that come out when the row is taken so many times as the number tells.
    """
    top, bottom = by
    rows = []
    for house, row in enumerate(net[0]):
        sizes, common = over_common(_sizes(row))
        scaled = [-size * bottom for size in sizes] + [common * bottom]
        scaled[house] += top * common
        rows.append((scaled, common * bottom))
    return rows


def _eliminated(rows):
    """The rows, each without what rows ahead take away, up to the first whose pivot isn't above 0."""
    done = []
    left = rows
    before = 1
    while left and before > 0:
        at = len(done)
        first = left[0]
        left = [taken_from(row, first, at, before) for row in left[1:]]
        before = first[at]
        done.append(first)
    return done


def pivots_for(net, by):
    """The pivots of the rows of a net and a share, up to the first that isn't above 0."""
    scaled = _scaled_rows(net, by)
    told = []
    before = 1
    for at, row in enumerate(_eliminated([row for row, _ in scaled])):
        told.append(fraction(row[at], before * scaled[at][1]))
        before = row[at]
    return tuple(told)


def _in_least_terms(numbers):
    shared = 0
    for number in numbers:
        shared = gcd(shared, number)
    return tuple([number // shared for number in numbers])


def _prices(net, rows):
    """Prices for the share whose rows, eliminated, these are."""
    columns = list(range(len(rows)))
    numbers, common = solved(rows, columns, [row[-1] for row in rows])
    top, bottom = greatest_ratio([row_sum(row, [1] * len(rows)) for row in net[0]])
    # With these numbers each row comes to 1. Taken at least as many times as a row's sum they may be rounded up:
    # what that adds to a sum is not above what the sum falls short.
    times = top // bottom + 1
    return _in_least_terms([-(-times * number // common) for number in numbers])


def _swing(rows, many):
    """The swing that the last one of these eliminated rows tells, its pivot not being above 0."""
    ahead = rows[:-1]
    last = len(ahead)
    numbers, common = solved(ahead, list(range(last)), [-row[last] for row in ahead])
    return _in_least_terms(numbers + [common] + [0] * (many - last - 1))


def priced_for(net, by):
    """A pair: "prices" and such for a share, or "swing" and such."""
    rows = _eliminated([row for row, _ in _scaled_rows(net, by)])
    last = len(rows) - 1
    if rows[last][last] > 0:
        return "prices", _prices(net, rows)
    return "swing", _swing(rows, len(net[0]))

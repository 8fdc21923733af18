"""Rests of table nets, and how far from them states are."""

from newsbehind.eliminations import solved, taken_from
from newsbehind.ratios import fraction, greatest_ratio, over_common
from newsbehind.swingrows import row_sum


def _rest_rows(net):
    """For each house integers: how many times each worth, taken together, must give the last one in a rest."""
    rows = []
    for house, (row, add) in enumerate(zip(net[0], net[1])):
        scaled, common = over_common(row + (add,))
        own = [-number for number in scaled[:-1]] + scaled[-1:]
        own[house] += common
        rows.append(own)
    return rows


def _eliminated(rows, many):
    """A triple: the rows with a pivot in one of the first so many columns, these columns, and the rows with none."""
    done = []
    columns = []
    left = rows
    before = 1
    for column in range(many):
        at = 0
        while at < len(left) and left[at][column] == 0:
            at += 1
        if at < len(left):
            first = left[at]
            left = [taken_from(row, first, column, before) for row in left[:at] + left[at + 1:]]
            before = first[column]
            done.append(first)
            columns.append(column)
    return done, columns, left


def some_rest(net):
    """Some rest of a table net, None if there is none."""
    many = len(net[0])
    rows, columns, left = _eliminated(_rest_rows(net), many)
    if any(row[many] != 0 for row in left):
        return None
    numbers, common = solved(rows, columns, [row[many] for row in rows])
    rest = [(0, 1)] * many
    for column, number in zip(columns, numbers):
        rest[column] = fraction(number, common)
    return tuple(rest)


def has_one_rest(net):
    """Whether a table net has just one rest."""
    many = len(net[0])
    return len(_eliminated(_rest_rows(net), many)[1]) == many


def share(net, prices):
    """The greatest sum of entries times prices over the price of its house."""
    sums = [row_sum(row, prices) for row in net[0]]
    return greatest_ratio([fraction(a, d * price) for (a, d), price in zip(sums, prices)])


def _distance(worth, other, price):
    """How far a worth is from another one, over a price: two integers, not in lowest terms."""
    return abs(worth[0] * other[1] - other[0] * worth[1]), worth[1] * other[1] * price


def farthest(net, rest, prices, states):
    """The greatest difference of an entry of states from that of the rest, over its price."""
    a, d = greatest_ratio([
        _distance(worth, other, price) for state in states for worth, other, price in zip(state, rest, prices)
    ])
    return fraction(a, d)

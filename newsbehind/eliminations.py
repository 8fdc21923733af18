"""Elimination in rows of integers: no fraction comes up, as each entry is divided by the pivot before."""


def taken_from(row, ahead, column, before):
    """The row less the proper multiple of the one ahead, whose pivot stands in the column; before is the pivot before.

    The division leaves nothing over: each entry is then a determinant of entries of the first rows.
    """
    pivot = ahead[column]
    own = row[column]
    return [(entry * pivot - own * other) // before for entry, other in zip(row, ahead)]


def solved(rows, columns, rights):
    """A pair (numbers, common): numbers over common solve the equations whose left sides stand in the rows.

    There is an unknown for each of these columns, in which the rows, one by one, have their pivots, with 0 in the
    columns ahead; rights are the right sides.
    """
    common = rows[-1][columns[-1]] if rows else 1
    numbers = [0] * len(rows)
    for at in reversed(range(len(rows))):
        row = rows[at]
        settled = sum([row[columns[later]] * numbers[later] for later in range(at + 1, len(rows))])
        numbers[at] = (rights[at] * common - settled) // row[columns[at]]
    return numbers, common

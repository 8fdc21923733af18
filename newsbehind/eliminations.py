"""Elimination in rows of integers: no fraction comes up, as each entry is divided by the pivot before."""


def taken_from(row, ahead, column, before):
    """The row less the proper multiple of the one ahead, whose pivot stands in the column; before is the pivot before.

    The division leaves nothing over: each entry is then a determinant of entries of the first rows.
    """
    pivot = ahead[column]
    own = row[column]
    return [(entry * pivot - own * other) // before for entry, other in zip(row, ahead)]


def solved(rows, columns, rights):
    """A pair of a list of numbers and one number: those, divided by this one, solve the rows.

    Each row has its pivot in the column told for it, and nothing in the columns ahead of that; besides the columns
    told nothing counts but what stands to the right of the sign of equality.
    """
    common = rows[-1][columns[-1]] if rows else 1
    numbers = [0] * len(rows)
    for at in reversed(range(len(rows))):
        row = rows[at]
        settled = sum([row[columns[later]] * numbers[later] for later in range(at + 1, len(rows))])
        numbers[at] = (rights[at] * common - settled) // row[columns[at]]
    return numbers, common

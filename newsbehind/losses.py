"""Lost news: a branch to which no news came hears once more what it heard a beat ahead."""

from newsbehind.basics import is_integer_in
from newsbehind.lateness import branch_counts
from newsbehind.resting import settled_from


def _has_form(counts, d, value):
    """Whether any value is like a lateness for houses with so many branches, None being let for each number."""
    if not isinstance(value, tuple) or len(value) != len(counts):
        return False
    for row, count in zip(value, counts):
        if not isinstance(row, tuple) or len(row) != count:
            return False
        if not all(late is None or is_integer_in(late, 1, d) for late in row):
            return False
    return True


def _numbers_at_branches(rows):
    """For each branch of all houses its entries, beat by beat."""
    flat = [[late for row in entry for late in row] for entry in rows]
    return [list(numbers) for numbers in zip(*flat)]


def _is_branch_lossy(numbers):
    """Whether no number at a branch goes back to older news, and none is lost at the first beat."""
    last = numbers[0]
    if last is None:
        return False
    for late in numbers[1:]:
        # What was heard last gets older by a beat, whether news came or not.
        last += 1
        if late is not None:
            if late > last:
                return False
            last = late
    return True


def are_lossy(net, d, value):
    """Whether any value is lossy latenesses for d."""
    counts = branch_counts(net)
    if not isinstance(value, tuple) or not all(_has_form(counts, d, entry) for entry in value):
        return False
    return all(_is_branch_lossy(numbers) for numbers in _numbers_at_branches(value))


def longest_loss(rows):
    """The greatest number of news lost one behind another at a branch."""
    longest = 0
    for numbers in _numbers_at_branches(rows):
        lost = 0
        for late in numbers:
            lost = lost + 1 if late is None else 0
            longest = max(longest, lost)
    return longest


def _filled_row(row, ahead):
    return tuple([before + 1 if late is None else late for late, before in zip(row, ahead)])


def filled(rows):
    """The latenesses in which what is lost is told as one beat older than a beat ahead."""
    told = []
    for entry in rows:
        ahead = told[-1] if told else entry
        told.append(tuple([_filled_row(row, row_ahead) for row, row_ahead in zip(entry, ahead)]))
    return tuple(told)


def settled_with(net, d, e, loss):
    """The beat from which on a net that rests always shows nothing but its rest, with stops and losses."""
    return e - 1 + settled_from(net, d + e + loss - 1)

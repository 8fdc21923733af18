"""Limits, and what the other modules ask of any value."""

MOST_NUMBER = 1000
MOST_HOUSES = 20
MOST_BRANCHES = 12
MOST_RULES = 60
MOST_LEVELS = 8
MOST_ROWS = 4096


def is_integer_in(value, low, high):
    """Whether any value is an integer from low to high."""
    # Python holds True and False to be integers, this package does not.
    if not isinstance(value, int) or isinstance(value, bool):
        return False
    return low <= value <= high


def are_integers_in(values, low, high):
    """Whether all entries of a list or tuple are integers from low to high."""
    return all(is_integer_in(entry, low, high) for entry in values)

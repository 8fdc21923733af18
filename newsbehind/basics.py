"""Limits, and what the other modules ask of any value."""

MOST_NUMBER = 1000
MOST_HOUSES = 20
MOST_BRANCHES = 12
MOST_RULES = 60
MOST_LEVELS = 8
MOST_ROWS = 4096
LEAST_OLD = 2
MOST_OLD = 9
MOST_LOOSE_BEATS = 60


def is_integer(value):
    """Whether any value is an integer."""
    # Python holds True and False to be integers, this package does not.
    return isinstance(value, int) and not isinstance(value, bool)


def is_integer_in(value, low, high):
    """Whether any value is an integer from low to high."""
    return is_integer(value) and low <= value <= high


def is_ascending(value, low, high):
    """Whether any value is an ascending tuple of integers from low to high."""
    if not isinstance(value, tuple) or not are_integers_in(value, low, high):
        return False
    return all(entry < later for entry, later in zip(value, value[1:]))


def are_integers_in(values, low, high):
    """Whether all entries of a list or tuple are integers from low to high."""
    return all(is_integer_in(entry, low, high) for entry in values)

"""Table nets: houses that want a sum of multiples of what they hear."""

from newsbehind.basics import MOST_HOUSES, MOST_NUMBER, is_integer
from newsbehind.errors import InvalidNet
from newsbehind.ratios import fraction, is_fraction, ratio_product, ratio_sum


def _is_entry(value):
    """Whether any value is a fraction that may stand in a table net."""
    return is_fraction(value) and abs(value[0]) <= MOST_NUMBER and value[1] <= MOST_NUMBER


def _are_entries(value, many):
    """Whether any value is a tuple of so many fractions that may stand in a table net."""
    return isinstance(value, tuple) and len(value) == many and all(_is_entry(entry) for entry in value)


def _is_table(value):
    if not isinstance(value, tuple) or not 1 <= len(value) <= MOST_HOUSES:
        return False
    return all(_are_entries(row, len(value)) for row in value)


def is_table_net(value):
    """Whether any value is a table net."""
    if not isinstance(value, tuple) or len(value) != 2 or not _is_table(value[0]):
        return False
    return _are_entries(value[1], len(value[0]))


def _entry_of(value):
    """The fraction for an integer or a pair of integers, None for any other value."""
    if is_integer(value):
        return fraction(value, 1)
    if not isinstance(value, tuple) or len(value) != 2:
        return None
    a, d = value
    return fraction(a, d) if is_integer(a) and is_integer(d) and d != 0 else None


def _entries_of(value):
    """The entries for those of a sequence, None for any other value."""
    return tuple([_entry_of(entry) for entry in value]) if isinstance(value, (list, tuple)) else None


def _table_of(value):
    return tuple([_entries_of(row) for row in value]) if isinstance(value, (list, tuple)) else None


def table_net_of(table, adds):
    """The table net with this table and these adds, of integers and pairs of integers."""
    own_table = _table_of(table)
    if not _is_table(own_table):
        raise InvalidNet(0)
    own_adds = _entries_of(adds)
    if not _are_entries(own_adds, len(own_table)):
        raise InvalidNet(1)
    return own_table, own_adds


def table_branches(net, house):
    """The houses that a house hears, ascending."""
    return tuple([other for other, entry in enumerate(net[0][house]) if entry[0] != 0])


def table_wanted(net, house, heard):
    """What a house wants if its branches, in order, bring these fractions."""
    row = net[0][house]
    total = net[1][house]
    for other, brought in zip(table_branches(net, house), heard):
        total = ratio_sum(total, ratio_product(row[other], brought))
    return total

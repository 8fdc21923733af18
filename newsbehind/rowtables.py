"""Tables of what a house wants, for all rows of worths that its branches bring."""

from newsbehind.basics import MOST_ROWS
from newsbehind.errors import Refused
from newsbehind.ruleforms import inner_rules
from newsbehind.rules import branches, told_of


def tops_heard(net, house):
    """For each branch of a house the top of the house that it hears."""
    return [net[0][other] for other in branches(net[1][house])]


def check_rows(net, house):
    """Refuses a house with too many rows of worths."""
    many = 1
    for top in tops_heard(net, house):
        many *= top + 1
    if many > MOST_ROWS:
        raise Refused(many)


def row_places(tops):
    """For each branch how far behind a row stands the one in which this branch brings one more."""
    places = []
    place = 1
    for top in reversed(tops):
        places.append(place)
        place *= top + 1
    return places[::-1]


def row_at(tops, places, at):
    """The row of worths with this index among all rows, ascending; the places are those of row_places."""
    return tuple([(at // place) % (top + 1) for place, top in zip(places, tops)])


def _least_of(ahead, behind):
    return [one if one < other else other for one in ahead for other in behind]


def _most_of(ahead, behind):
    return [one if one > other else other for one in ahead for other in behind]


def _sum_of(ahead, behind):
    return [one + other for one in ahead for other in behind]


JOINING = {"least": _least_of, "most": _most_of, "add": _sum_of}


def _table_over(rule, tables):
    """What a rule tells for all rows of its branches, by what its inner rules tell for all rows of theirs."""
    word = rule[0]
    if word in JOINING:
        join = JOINING[word]
        joined = tables[0]
        for table in tables[1:]:
            joined = join(joined, table)
        return joined
    if word == "middle":
        first, second, third = tables
        return [told_of(rule, (one, two, three)) for one in first for two in second for three in third]
    inner = tables[0]
    # Many rows tell few numbers, so the rule is asked once for each.
    known = {worth: told_of(rule, (worth,)) for worth in sorted(set(inner))}
    return [known[worth] for worth in inner]


def _table_from(rule, brought, at):
    """A pair: the table of a rule whose first branch is the one with the number at, and the number behind its last."""
    word = rule[0]
    if word == "is":
        return [rule[1]], at
    if word == "hear":
        return list(brought[at]), at + 1
    tables = []
    for part in inner_rules(rule):
        table, at = _table_from(part, brought, at)
        tables.append(table)
    return _table_over(rule, tables), at


def wants_over(net, house, brought):
    """What a house wants for all rows with an entry of brought[k] at each branch k; the last branch turns first."""
    top = net[0][house]
    return [min(worth, top) for worth in _table_from(net[1][house], brought, 0)[0]]


def all_wants(net, house):
    """What a house wants for all rows of worths that its branches can bring, the rows ascending."""
    return wants_over(net, house, [list(range(top + 1)) for top in tops_heard(net, house)])

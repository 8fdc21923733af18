"""Sheets: answers that can be looked at without finding them again."""

from newsbehind.basics import is_integer_in
from newsbehind.ends import last_ends
from newsbehind.errors import InvalidQuestion, Refused
from newsbehind.mending import fewest_paper, is_fewest_paper
from newsbehind.nets import is_net, is_rest, is_state
from newsbehind.pricing import are_prices, are_swinging, priced
from newsbehind.restpapers import is_rest_paper, rest_paper
from newsbehind.shares import is_share_paper, share_between
from newsbehind.tablenets import is_table_net
from newsbehind.toggles import is_toggle, toggle_ends
from newsbehind.traps import is_trap
from newsbehind.ways import are_one_way

# How many things stand in the question of each kind of sheet.
QUESTION_SIZES = {"rest": 1, "toggle": 1, "trap": 1, "fewest": 2, "prices": 1, "swing": 1, "share": 2}

MOST_HALVINGS = 20


def _is_name(value):
    """Whether any value is a kind of sheet."""
    return isinstance(value, str) and value in QUESTION_SIZES


def _is_question(name, value):
    """Whether any value is a question for a kind of sheet."""
    if not isinstance(value, tuple) or len(value) != QUESTION_SIZES[name]:
        return False
    if name in ("prices", "swing"):
        return is_table_net(value[0])
    if name == "share":
        return is_table_net(value[0]) and is_integer_in(value[1], 0, MOST_HALVINGS)
    if not is_net(value[0]) or not are_one_way(value[0]):
        return False
    return name != "fewest" or (is_state(value[0], value[1]) and is_rest(value[0], value[1]))


def _holds(name, question, value):
    """Whether any value shows what a sheet of this kind with this question tells."""
    net = question[0]
    if name == "rest":
        return is_rest_paper(net, value)
    if name == "toggle":
        return is_toggle(net, value)
    if name == "trap":
        return is_trap(net, value)
    if name == "fewest":
        return is_fewest_paper(net, question[1], value)
    if name == "prices":
        return are_prices(net, value)
    if name == "swing":
        return are_swinging(net, value)
    return is_share_paper(net, value)


def _found(name, question):
    """A value for a sheet of this kind with this question, None if there is none."""
    net = question[0]
    if name == "rest":
        return rest_paper(net)
    if name == "toggle":
        return toggle_ends(net)
    if name == "trap":
        return last_ends(net)
    if name == "fewest":
        return fewest_paper(net, question[1])
    if name == "share":
        return share_between(net, question[1])
    kind, numbers = priced(net)
    return numbers if kind == name else None


def sheet_holds(value):
    """Whether any value is a sheet that holds."""
    if not isinstance(value, tuple) or len(value) != 3:
        return False
    name, question, told = value
    return _is_name(name) and _is_question(name, question) and _holds(name, question, told)


def sheet(name, question):
    """A sheet of this kind that holds, with this question."""
    if not _is_name(name):
        raise Refused(0)
    if not _is_question(name, question):
        raise Refused(1)
    found = _found(name, question)
    if found is None:
        raise Refused(2)
    return name, question, found


def wrong_sheets(values):
    """The indexes of those of a list or tuple that do not hold."""
    if not isinstance(values, (list, tuple)):
        raise InvalidQuestion(0)
    return tuple([at for at, value in enumerate(values) if not sheet_holds(value)])

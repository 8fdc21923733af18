"""What may happen to a net while it runs, and what is known behind it."""

from newsbehind.basics import is_integer, is_integer_in
from newsbehind.ends import are_ends
from newsbehind.errors import InvalidQuestion
from newsbehind.living import closed, known
from newsbehind.nets import is_net, with_rule
from newsbehind.ways import are_one_way

MOST_WAIT = 10000


def _form_of(value):
    """The word with which any value begins and the number of its entries, None if it begins with none."""
    if not isinstance(value, tuple) or len(value) == 0 or not isinstance(value[0], str):
        return None
    return value[0], len(value)


def _is_house(net, value):
    return is_integer_in(value, 0, len(net[0]) - 1)


def _is_wait(value):
    return _form_of(value) == ("wait", 2) and is_integer_in(value[1], 0, MOST_WAIT)


def _net_behind(net, value):
    """The net behind a change of a rule or with a new house, None if any value is none that can be made."""
    form = _form_of(value)
    if form == ("rule", 3) and _is_house(net, value[1]):
        later = with_rule(net, value[1], value[2])
    elif form == ("house", 3):
        later = net[0] + (value[1],), net[1] + (value[2],)
    else:
        return None
    return later if is_net(later) and are_one_way(later) else None


def _ends_seen(life, value):
    """What is known, narrowed to what was seen of a house, None if any value does not tell such a thing."""
    net = life[0]
    if _form_of(value) != ("seen", 4):
        return None
    _, house, low, high = value
    if not _is_house(net, house) or not is_integer(high) or not is_integer_in(low, 0, high):
        return None
    lows, highs = known(life)
    narrowed = (
        lows[:house] + (max(lows[house], low),) + lows[house + 1:],
        highs[:house] + (min(highs[house], high),) + highs[house + 1:],
    )
    return narrowed if are_ends(net, narrowed) else None


def is_change(life, value):
    """Whether any value is a change that can be made."""
    return _is_wait(value) or _net_behind(life[0], value) is not None or _ends_seen(life, value) is not None


def _ends_behind(life, later):
    """What is known, with all worths of the houses that a later net has besides."""
    lows, highs = known(life)
    new_tops = later[0][len(lows):]
    return lows + (0,) * len(new_tops), highs + new_tops


def life_behind(life, value):
    """The life behind a change, None if any value is none that can be made."""
    net, d, ends, age = life
    if _is_wait(value):
        return net, d, ends, age + value[1]
    later = _net_behind(net, value)
    if later is not None:
        return later, d, closed(later, _ends_behind(life, later)), 0
    seen = _ends_seen(life, value)
    return None if seen is None else (net, d, closed(net, seen), 0)


def changed(life, change):
    """The life behind a change."""
    later = life_behind(life, change)
    if later is None:
        raise InvalidQuestion(1)
    return later

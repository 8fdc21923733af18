"""Settings: houses set by hand, and with which settings a net comes to rest always."""

from newsbehind.boxes import box_of, first_restless, settings_at_rest, settings_between
from newsbehind.errors import Refused
from newsbehind.nets import fixed
from newsbehind.ways import one_way_words

MOST_SETTINGS = 2000


def check_settings(net, inputs):
    """Refuses a net with a branch that goes both ways, then inputs with too many settings."""
    one_way_words(net)
    many = 1
    for house in inputs:
        many *= net[0][house] + 1
    if many > MOST_SETTINGS:
        raise Refused(many)


def settings(net, inputs):
    """All settings of inputs, ascending."""
    check_settings(net, inputs)
    return tuple(settings_between([(0, net[0][house]) for house in inputs]))


def set_net(net, inputs, setting):
    """The net in which each of the inputs always wants its worth of a setting."""
    one_way_words(net)
    for house, worth in zip(inputs, setting):
        net = fixed(net, house, worth)
    return net


def resting_settings(net, inputs):
    """The settings with which a net rests always, ascending."""
    check_settings(net, inputs)
    return tuple(settings_at_rest(box_of(net, inputs)))


def first_toggling(net, inputs):
    """The first setting with which a net does not rest always, None if there is none."""
    check_settings(net, inputs)
    box = first_restless(box_of(net, inputs))
    return None if box is None else box.least_setting(inputs)

"""Who can bring it about that a net rests always, whatever others show."""

from newsbehind.boxes import box_of, first_forcing, first_restless
from newsbehind.settings import check_settings


def forcing(net, mine, others):
    """The first setting of mine with which a net rests always with each setting of the others, None if none does."""
    check_settings(net, mine + others)
    box = first_forcing(box_of(net, mine + others), mine)
    return None if box is None else box.least_setting(mine)


def answer(net, mine, others, setting):
    """The first setting of the others with which, and with this one of mine, a net does not rest always, or None."""
    check_settings(net, mine + others)
    box = box_of(net, mine + others)
    for house, worth in zip(mine, setting):
        box = box.with_input(house, worth, worth)
    found = first_restless(box)
    return None if found is None else found.least_setting(others)

"""By which beat a table net is as near to its rest as is wanted."""

from newsbehind.errors import Refused
from newsbehind.tablerests import share

MOST_ROUNDS = 1000


def beats_for(net, prices, d, far, near):
    """The least beat, a multiple of d, from which on all is near to the rest, if it was not farther than far."""
    top, bottom = share(net, prices)
    # far times the share, again and again, is at most near if left is at most right.
    left = far[0] * near[1] * top
    right = near[0] * far[1] * bottom
    rounds = 0
    while left > right:
        if rounds == MOST_ROUNDS:
            raise Refused(d)
        rounds += 1
        left *= top
        right *= bottom
    return d * rounds

"""Prices: traders who ask their cost and a share of the least price of their rivals."""

from newsbehind.ends import last_ends


def _price_rule(offer):
    cost, share, low, high, rivals = offer
    parts = [("is", cost)]
    if rivals:
        parts.append(("part", share, ("least", tuple([("hear", rival) for rival in rivals]))))
    return "clip", low, high, ("add", tuple(parts))


def price_net(offers):
    """The net of traders with these offers."""
    return tuple([offer[3] for offer in offers]), tuple([_price_rule(offer) for offer in offers])


def price_ends(offers):
    """The ends between which the prices of all traders stay: the least and the greatest rest."""
    return last_ends(price_net(offers))

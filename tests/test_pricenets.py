"""[72]: traders who price by one another."""

import random
import unittest

from newsbehind.beats import shown
from newsbehind.ends import last_ends
from newsbehind.nets import is_net, net_of, next_state
from newsbehind.pricenets import price_ends, price_net
from newsbehind.rests import greatest_rest, is_rising, least_rest
from sampling import drawn_run

TWO = ((5, 2, 1, 30, (1,)), (3, 1, 4, 30, (0,)))


def drawn_offers(rng, n, most=40, shares=(1, 2, 3, 9)):
    offers = []
    for _ in range(n):
        low, high = sorted((rng.randint(0, most), rng.randint(0, most)))
        rivals = tuple(sorted(rng.sample(range(n), rng.randint(0, min(n, 12)))))
        offers.append((rng.randint(0, most // 2), rng.choice(shares), low, high, rivals))
    return tuple(offers)


def asked(offer, state):
    """What a trader asks, by the document's words."""
    cost, share, low, high, rivals = offer
    total = cost + (min(state[rival] for rival in rivals) // share if rivals else 0)
    return min(max(total, low), high)


def slow_ends(offers):
    ends = []
    for state in ([0] * len(offers), [offer[3] for offer in offers]):
        while [asked(offer, state) for offer in offers] != state:
            state = [asked(offer, state) for offer in offers]
        ends.append(tuple(state))
    return tuple(ends)


class PriceNetTest(unittest.TestCase):
    def test_by_hand(self):
        self.assertEqual(price_net(TWO), net_of([30, 30], [
            ("clip", 1, 30, ("add", (("is", 5), ("part", 2, ("least", (("hear", 1),)))))),
            ("clip", 4, 30, ("add", (("is", 3), ("part", 1, ("least", (("hear", 0),))))))]))

    def test_no_rivals(self):
        self.assertEqual(price_net(((5, 9, 1, 30, ()),)), ((30,), (("clip", 1, 30, ("add", (("is", 5),))),)))
        for cost, low, high, told in ((5, 1, 30, 5), (0, 1, 30, 1), (40, 1, 30, 30), (9, 7, 7, 7), (3, 7, 7, 7),
                                      (1000, 0, 1000, 1000), (0, 0, 0, 0)):
            self.assertEqual(price_ends(((cost, 9, low, high, ()),)), ((told,), (told,)))

    def test_one_rival_and_12(self):
        offers = ((5, 9, 1, 30, tuple(range(1, 13))),) + ((7, 1, 0, 99, (0,)),) * 12
        net = price_net(offers)
        self.assertIs(is_net(net), True)
        self.assertEqual(net[0], (30,) + (99,) * 12)
        self.assertEqual(net[1][0], ("clip", 1, 30, ("add", (("is", 5),
                                                             ("part", 9,
                                                              ("least", tuple(("hear", v) for v in range(1, 13))))))))

    def test_the_rule_tells_what_is_asked(self):
        rng = random.Random(721)
        for _ in range(100):
            offers = drawn_offers(rng, rng.choice((1, 2, 5, 20)), most=rng.choice((9, 40, 1000)))
            net = price_net(offers)
            self.assertIs(is_net(net), True)
            self.assertIs(is_rising(net), True)
            state = tuple(rng.randint(0, top) for top in net[0])
            self.assertEqual(next_state(net, state), tuple(asked(offer, state) for offer in offers))


class PriceEndsTest(unittest.TestCase):
    def test_by_hand(self):
        # 12 = 5 + 15 // 2 and 15 = 3 + 12; 13 = 5 + 16 // 2 and 16 = 3 + 13.
        self.assertEqual(price_ends(TWO), ((12, 15), (13, 16)))
        self.assertEqual(slow_ends(TWO), ((12, 15), (13, 16)))

    def test_shares_of_1_hold_one_another_up(self):
        self.assertEqual(price_ends(((0, 1, 2, 30, (1,)), (0, 1, 1, 25, (0,)))), ((2, 2), (25, 25)))
        self.assertEqual(price_ends(((1, 1, 2, 30, (1,)), (0, 1, 1, 25, (0,)))), ((26, 25), (26, 25)))
        self.assertEqual(price_ends(((0, 1, 0, 1000, (0,)),)), ((0,), (1000,)))

    def test_shares_of_1_and_of_9(self):
        for share, ends in ((1, ((30,), (30,))), (2, ((9,), (10,))), (9, ((5,), (5,)))):
            self.assertEqual(price_ends(((5, share, 0, 30, (0,)),)), ends)

    def test_drawn_offers(self):
        rng = random.Random(722)
        for _ in range(150):
            offers = drawn_offers(rng, rng.choice((1, 2, 3, 6, 20)), most=rng.choice((9, 40)))
            net = price_net(offers)
            told = price_ends(offers)
            self.assertEqual(told, slow_ends(offers))
            self.assertEqual(told, (least_rest(net), greatest_rest(net)))
            self.assertEqual(told, last_ends(net))

    def test_shares_of_2_or_more(self):
        rng = random.Random(723)
        unlike = 0
        for _ in range(200):
            offers = drawn_offers(rng, rng.choice((2, 3, 6)), most=1000, shares=(2, 3, 9))
            lows, highs = price_ends(offers)
            unlike += lows != highs
            self.assertTrue(all(high - low <= 1 for low, high in zip(lows, highs)))
        self.assertGreater(unlike, 5)

    def test_prices_shown_in_the_end(self):
        rng = random.Random(724)
        for _ in range(20):
            offers = drawn_offers(rng, 4, most=20)
            net = price_net(offers)
            lows, highs = price_ends(offers)
            last = shown(net, 3, drawn_run(rng, net, 3, 250))[-1]
            self.assertTrue(all(low <= price <= high for low, price, high in zip(lows, last, highs)))


if __name__ == "__main__":
    unittest.main()

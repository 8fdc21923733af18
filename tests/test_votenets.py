"""[70]: votes, who wins and who can stand."""

import itertools
import random
import unittest

from newsbehind.beats import shown
from newsbehind.nets import is_net, net_of
from newsbehind.resting import rests_always
from newsbehind.rests import is_rising, rests
from newsbehind.votenets import standing_lots, vote_net, won
from sampling import drawn_run

PATH = ((0, 1), (1, 2), (2, 3))


def drawn_links(rng, n, often=0.5):
    counts = [0] * n
    links = []
    for u, v in itertools.combinations(range(n), 2):
        if rng.random() < often and counts[u] < 12 and counts[v] < 12:
            counts[u] += 1
            counts[v] += 1
            links.append((u, v))
    return tuple(links)


def slow_won(n, links, needs, seeds):
    """By going on from nobody: whoever has enough around it is won, too."""
    lot = set(seeds) | {house for house in range(n) if needs[house] == 0}
    while True:
        more = {house for house in range(n) if sum((house in link) and (set(link) - {house} <= lot) for link in links) >= needs[house]}
        if more <= lot:
            return tuple(sorted(lot))
        lot |= more


class VoteNetTest(unittest.TestCase):
    def test_by_hand(self):
        net = vote_net(4, PATH, (1, 2, 0, 13))
        self.assertEqual(net, net_of([1] * 4, [
            ("bar", 1, 0, 1, ("add", (("hear", 1),))), ("bar", 2, 0, 1, ("add", (("hear", 0), ("hear", 2)))), ("is", 1),
            ("bar", 13, 0, 1, ("add", (("hear", 2),)))]))

    def test_no_links(self):
        self.assertEqual(vote_net(3, (), (0, 1, 13)), ((1, 1, 1), (("is", 1), ("is", 0), ("is", 0))))
        self.assertEqual(vote_net(1, (), (0,)), ((1,), (("is", 1),)))
        self.assertEqual(standing_lots(3, (), (0, 1, 13)), ((0,), (0,)))
        self.assertEqual(won(3, (), (0, 1, 13), ()), (0,))
        self.assertEqual(won(3, (), (0, 1, 13), (2,)), (0, 2))

    def test_links_of_both_kinds_are_ascending(self):
        net = vote_net(5, ((0, 2), (1, 2), (2, 3), (2, 4)), (1, 1, 3, 1, 1))
        self.assertEqual(net[1][2], ("bar", 3, 0, 1, ("add", (("hear", 0), ("hear", 1), ("hear", 3), ("hear", 4)))))

    def test_12_links(self):
        links = tuple((0, v) for v in range(1, 13))
        for need in 1, 11, 12, 13:
            net = vote_net(13, links, (need,) + (1,) * 12)
            self.assertIs(is_net(net), True)
            self.assertEqual(net[1][0], ("bar", need, 0, 1, ("add", tuple(("hear", v) for v in range(1, 13)))))
            self.assertEqual(won(13, links, (need,) + (1,) * 12, tuple(range(1, 13))),
                             tuple(range(1 if need == 13 else 0, 13)))


class WonTest(unittest.TestCase):
    def test_by_hand(self):
        self.assertEqual(won(4, PATH, (1, 2, 1, 1), (0, 3)), (0, 1, 2, 3))
        self.assertEqual(won(4, PATH, (1, 2, 1, 1), (0,)), (0,))
        self.assertEqual(won(4, PATH, (1, 1, 1, 1), (2,)), (0, 1, 2, 3))
        self.assertEqual(won(4, PATH, (1, 1, 1, 1), ()), ())
        self.assertEqual(won(4, PATH, (0, 1, 1, 1), ()), (0, 1, 2, 3))

    def test_needs(self):
        # Of 0, of 1, of just as many as there are links, of more; house 1 has two, house 3 one.
        for need, seeds, lot in ((0, (), (1,)), (1, (), ()), (1, (0,), (0, 1)), (1, (2,), (1, 2)), (2, (0,), (0,)),
                                 (2, (0, 2), (0, 1, 2)),
                                 (3, (0, 2), (0, 2)), (13, (0, 2), (0, 2))):
            self.assertEqual(won(4, PATH, (9, need, 9, 9), seeds), lot)
        for need, lot in ((0, (2, 3)), (1, (2, 3)), (2, (2,))):
            self.assertEqual(won(4, PATH, (9, 9, 9, need), (2,)), lot)

    def test_seeds(self):
        self.assertEqual(won(4, PATH, (13,) * 4, (0, 1, 2, 3)), (0, 1, 2, 3))
        self.assertEqual(won(4, PATH, (13,) * 4, (1,)), (1,))
        self.assertEqual(won(5, PATH, (1, 1, 1, 1, 1), (4,)), (4,))

    def test_drawn_votes(self):
        rng = random.Random(701)
        for _ in range(150):
            n = rng.choice((1, 3, 5, 8))
            links = drawn_links(rng, n)
            needs = tuple(rng.choice((0, 1, 1, 2, 2, 3, 13)) for _ in range(n))
            seeds = tuple(sorted(rng.sample(range(n), rng.randint(0, n))))
            net = vote_net(n, links, needs)
            self.assertIs(is_net(net), True)
            self.assertIs(is_rising(net), True)
            lot = won(n, links, needs, seeds)
            self.assertEqual(lot, slow_won(n, links, needs, seeds))
            # Further seeds and lesser needs win the same houses, perhaps more.
            further = tuple(sorted(set(seeds) | {rng.randrange(n)}))
            lesser = tuple(max(0, need - rng.choice((0, 1))) for need in needs)
            self.assertLessEqual(set(lot), set(won(n, links, needs, further)))
            self.assertLessEqual(set(lot), set(won(n, links, lesser, seeds)))

    def test_whatever_the_lateness(self):
        rng = random.Random(702)
        for _ in range(30):
            links = drawn_links(rng, 6)
            needs = tuple(rng.choice((1, 2, 2)) for _ in range(6))
            seeds = tuple(sorted(rng.sample(range(6), 2)))
            net = vote_net(6, links, needs)
            seeded = net_of(net[0], [("is", 1) if house in seeds else rule for house, rule in enumerate(net[1])])
            past, latenesses = drawn_run(rng, seeded, 3, 40)
            last = shown(seeded, 3, (((0,) * 6,) * 3, latenesses))[-1]
            self.assertEqual(tuple(house for house in range(6) if last[house]), won(6, links, needs, seeds))


class StandingLotsTest(unittest.TestCase):
    def test_by_hand(self):
        self.assertEqual(standing_lots(3, ((0, 1), (1, 2)), (1, 1, 1)), ((), (0, 1, 2)))
        self.assertEqual(standing_lots(3, ((0, 1), (1, 2)), (1, 3, 1)), ((), ()))
        self.assertEqual(standing_lots(3, ((0, 1), (1, 2)), (1, 0, 2)), ((0, 1), (0, 1)))
        self.assertEqual(standing_lots(4, ((0, 1), (2, 3)), (0, 1, 1, 1)), ((0, 1), (0, 1, 2, 3)))

    def test_by_all_rests(self):
        rng = random.Random(703)
        equal = [0, 0]
        for _ in range(100):
            n = rng.choice((1, 3, 5, 7))
            links = drawn_links(rng, n)
            needs = tuple(rng.choice((0, 1, 1, 2, 2, 3)) for _ in range(n))
            net = vote_net(n, links, needs)
            every = rests(net, 200)
            least, greatest = standing_lots(n, links, needs)
            lots = [tuple(house for house in range(n) if state[house]) for state in every]
            self.assertEqual(least, won(n, links, needs, ()))
            self.assertIn(least, lots)
            self.assertIn(greatest, lots)
            for lot in lots:
                self.assertTrue(set(least) <= set(lot) <= set(greatest))
            self.assertIs(rests_always(net), least == greatest)
            equal[least == greatest] += 1
        self.assertGreater(min(equal), 15)

    def test_20_houses(self):
        links = tuple(sorted(tuple(sorted((u, (u + late) % 20))) for u in range(20) for late in range(1, 7)))
        self.assertEqual(standing_lots(20, links, (12,) * 20), ((), tuple(range(20))))
        self.assertEqual(standing_lots(20, links, (13,) * 20), ((), ()))
        self.assertEqual(won(20, links, (6,) * 20, tuple(range(6))), tuple(range(20)))
        self.assertEqual(won(20, links, (7,) * 20, tuple(range(6))), tuple(range(6)))


if __name__ == "__main__":
    unittest.main()

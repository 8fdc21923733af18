"""[29]: lots of worths, round by round, whatever the rules."""

import itertools
import random
import unittest

from newsbehind.ends import ends_behind
from newsbehind.errors import Refused
from newsbehind.lots import first_lots, is_sure, known_rounds, last_lots, lot_rounds, lots_next
from newsbehind.nets import net_of, wanted
from newsbehind.resting import rests_always
from newsbehind.rules import branches
from newsbehind.ways import ways
from sampling import drawn_net, greatest_net, one_way, small_net

HALF = net_of([3], [("part", 2, ("hear", 0))])
TURN = net_of([2, 1], [("row", (1, 2, 0), ("hear", 0)), ("bar", 1, 1, 0, ("least", (("hear", 0), ("hear", 1))))])


def slow_next(net, lots):
    following = []
    for house, rule in enumerate(net[1]):
        rows = itertools.product(*[lots[other] for other in branches(rule)])
        following.append(tuple(sorted({wanted(net, house, row) for row in rows})))
    return tuple(following)


def slow_rounds(net):
    rounds = [tuple(tuple(range(top + 1)) for top in net[0])]
    while slow_next(net, rounds[-1]) != rounds[-1]:
        rounds.append(slow_next(net, rounds[-1]))
    return tuple(rounds)


def drawn_lots(rng, net):
    return tuple(tuple(sorted(rng.sample(range(top + 1), rng.randint(1, top + 1)))) for top in net[0])


class LotsTest(unittest.TestCase):
    def test_first_lots(self):
        self.assertEqual(first_lots(TURN), ((0, 1, 2), (0, 1)))
        self.assertEqual(first_lots(net_of([0, 1000], [("is", 5)] * 2)), ((0,), tuple(range(1001))))

    def test_lots_next(self):
        self.assertEqual(lots_next(TURN, ((0, 2), (1,))), ((0, 1), (0, 1)))
        self.assertEqual(lots_next(TURN, ((1,), (0,))), ((2,), (1,)))
        self.assertEqual(lots_next(HALF, ((0, 1, 2, 3),)), ((0, 1),))
        self.assertEqual(lots_next(HALF, ((2,),)), ((1,),))

    def test_each_branch_on_its_own(self):
        # Both branches hear one house, and yet bring unlike worths of its lot.
        net = net_of([9], [("add", (("hear", 0), ("hear", 0)))])
        self.assertEqual(lots_next(net, ((1, 4),)), ((2, 5, 8),))
        net = net_of([9], [("from", 5, ("add", (("hear", 0), ("from", 5, ("hear", 0)))))])
        self.assertEqual(lots_next(net, ((1, 4),)), ((0, 3),))

    def test_the_top_cuts(self):
        net = net_of([3, 9], [("times", 2, ("hear", 1)), ("is", 900)])
        self.assertEqual(lots_next(net, ((0,), (0, 1, 2, 3, 9))), ((0, 2, 3), (9,)))

    def test_no_branches(self):
        net = net_of([5, 6], [("is", 4), ("is", 1000)])
        first = (tuple(range(6)), tuple(range(7)))
        self.assertEqual(lots_next(net, ((0, 1), (6,))), ((4,), (6,)))
        self.assertEqual(lot_rounds(net), (first, ((4,), (6,))))
        self.assertEqual((last_lots(net), known_rounds(net), is_sure(net)), (((4,), (6,)), (1, 1), True))

    def test_rounds(self):
        self.assertEqual(lot_rounds(HALF), (((0, 1, 2, 3),), ((0, 1),), ((0,),)))
        self.assertEqual(last_lots(HALF), ((0,),))
        self.assertEqual(lot_rounds(TURN), (((0, 1, 2), (0, 1)),))
        self.assertEqual(last_lots(TURN), ((0, 1, 2), (0, 1)))

    def test_worths_between_are_lost_too(self):
        net = net_of([4, 4], [("row", (0, 0, 4, 4, 4), ("hear", 1)), ("hear", 0)])
        full = (0, 1, 2, 3, 4)
        self.assertEqual(lot_rounds(net), ((full, full), ((0, 4), full), ((0, 4), (0, 4))))
        self.assertIs(is_sure(net), False)

    def test_a_row_lost_by_several_branches_is_lost_once(self):
        net = net_of([2, 2], [("add", (("hear", 1), ("hear", 1), ("hear", 1))), ("clip", 1, 1, ("hear", 0))])
        self.assertEqual(lot_rounds(net), slow_rounds(net))
        self.assertEqual(last_lots(net), ((2,), (1,)))

    def test_known_rounds(self):
        self.assertEqual(known_rounds(HALF), (2,))
        self.assertEqual(known_rounds(TURN), (None, None))
        least = ("least", (("hear", 2), ("hear", 0)))
        net = net_of([0, 3, 3, 5, 7], [("hear", 3), ("is", 2), ("hear", 1), ("hear", 3), least])
        self.assertEqual(known_rounds(net), (0, 1, 2, None, 1))
        self.assertIs(is_sure(net), False)

    def test_many_rounds(self):
        net = net_of([1000], [("add", (("hear", 0), ("is", 1)))])
        rounds = lot_rounds(net)
        for at in (0, 1, 500, 999, 1000):
            # Not by assertEqual, which would compare long rows sign by sign to tell where they differ.
            self.assertTrue(rounds[at] == (tuple(range(at, 1001)),), at)
        self.assertEqual((len(rounds), known_rounds(net), is_sure(net), last_lots(net)), (1001, (1000,), True, ((1000,),)))

    def test_as_all_rows_tell(self):
        rng = random.Random(141)
        words = set()
        sure = [0, 0]
        for _ in range(250):
            net = small_net(rng, heard=4)
            words |= {word for house in range(3) for word in ways(net, house)}
            lots = drawn_lots(rng, net)
            self.assertEqual(lots_next(net, lots), slow_next(net, lots))
            rounds = slow_rounds(net)
            self.assertEqual(lot_rounds(net), rounds)
            self.assertEqual(last_lots(net), rounds[-1])
            known = [[at for at, lots in enumerate(rounds) if len(lots[house]) == 1] for house in range(3)]
            self.assertEqual(known_rounds(net), tuple(row[0] if row else None for row in known))
            is_one = all(len(lot) == 1 for lot in rounds[-1])
            self.assertIs(is_sure(net), is_one)
            sure[is_one] += 1
        self.assertEqual(words, {"none", "both", "rises", "falls"})
        self.assertGreater(min(sure), 40)

    def test_lots_lose_and_nothing_that_stays_is_missing(self):
        rng = random.Random(142)
        for _ in range(60):
            net = small_net(rng, houses=2, top=2, heard=3)
            rounds = lot_rounds(net)
            for ahead, behind in zip(rounds, rounds[1:]):
                self.assertNotEqual(ahead, behind)
                for one, other in zip(ahead, behind):
                    self.assertLessEqual(set(other), set(one))
            kinds = [[lot for many in range(1, top + 2) for lot in itertools.combinations(range(top + 1), many)]
                     for top in net[0]]
            for lots in itertools.product(*kinds):
                if lots_next(net, lots) == lots:
                    for one, other in zip(lots, rounds[-1]):
                        self.assertLessEqual(set(one), set(other))

    def test_least_and_greatest_worths_are_the_ends(self):
        rng = random.Random(143)
        for _ in range(120):
            net = one_way(rng, small_net(rng, heard=4))
            for at, lots in enumerate(lot_rounds(net)):
                self.assertEqual(ends_behind(net, at), (tuple(lot[0] for lot in lots), tuple(lot[-1] for lot in lots)))
            self.assertEqual(is_sure(net), rests_always(net))

    def test_more_parts(self):
        rng = random.Random(144)
        seen = 0
        while seen < 60:
            net = drawn_net(rng, houses=3, many=rng.choice((9, 20, 60)), most_top=rng.choice((1, 2)))
            if max(3 ** len(branches(rule)) for rule in net[1]) <= 4096:
                seen += 1
                self.assertEqual(lot_rounds(net), slow_rounds(net))


class TooManyRowsTest(unittest.TestCase):
    def refused(self, many, net):
        for ask in (lambda: lots_next(net, first_lots(net)), lambda: lots_next(net, tuple((0,) for _ in net[0])),
                    lambda: lot_rounds(net), lambda: last_lots(net), lambda: known_rounds(net), lambda: is_sure(net)):
            with self.assertRaises(Refused) as caught:
                ask()
            self.assertEqual(caught.exception.at, many)

    def test_4096_rows(self):
        net = net_of([63, 63], [("add", (("hear", 0), ("hear", 1))), ("most", (("hear", 0), ("hear", 1)))])
        self.assertEqual(len(lot_rounds(net)), 1)
        net = net_of([1], [("least", (("hear", 0),) * 11 + (("from", 1, ("hear", 0)),))])
        self.assertEqual(last_lots(net), ((0, 1),))

    def test_4097_rows_and_more(self):
        two = ("add", (("hear", 0), ("hear", 1)))
        self.refused(4097, net_of([16, 240], [two, ("is", 0)]))
        self.refused(4160, net_of([63, 64], [two, ("is", 0)]))
        self.refused(1001 ** 12, greatest_net())
        self.refused(1002001, net_of([1000], [("times", 0, ("add", (("hear", 0), ("hear", 0))))]))

    def test_the_first_such_house(self):
        net = net_of([63, 64, 4], [("hear", 0), ("add", (("hear", 1), ("hear", 0))), ("add", (("hear", 1),) * 3)])
        self.refused(4160, net)
        self.refused(65 ** 3, net_of(net[0], [net[1][0], net[1][2], net[1][1]]))
        self.refused(64 ** 3, net_of([63, 63], [("is", 0), ("add", (("hear", 1),) * 3)]))

    def test_first_lots_are_not_refused(self):
        self.assertEqual(first_lots(greatest_net()), (tuple(range(1001)),) * 20)


if __name__ == "__main__":
    unittest.main()

"""[49] and [50]: calming lots, and the fewest houses."""

import itertools
import random
import unittest

from newsbehind.beats import shown
from newsbehind.ends import last_ends
from newsbehind.errors import Refused
from newsbehind.mending import calms, fewest_houses, fewest_paper, is_fewest_paper
from newsbehind.nets import net_of
from newsbehind.resting import rests_always, the_rest
from newsbehind.stirs import fixed_lot, is_stir, unrest
from sampling import ODD_VALUES, drawn_run
from test_stirs import BOTH, NET, REST, all_lots, all_stirs, net_and_rest

PAPER = ((0, 2), (((0, 0, 1), (2, 2, 1)), ((1, 1, 1), (1, 1, 2))))


def hits(lot, stirs):
    return all(set(lot) & set(unrest(ends)) for ends in stirs)


def slow_is_paper(net, rest, lot, stirs):
    """By all lots; the stirs are known to be some, in order."""
    if not rests_always(fixed_lot(net, rest, lot)):
        return False
    return not any(hits(other, stirs) for other in all_lots(len(rest)) if len(other) < len(lot))


class CalmsTest(unittest.TestCase):
    def test_by_hand(self):
        for lot, is_one in (((), False), ((0,), False), ((1,), False), ((2,), False), ((0, 1), False), ((0, 2), True), ((1, 2), True),
                            ((0, 1, 2), True)):
            self.assertIs(calms(NET, REST, lot), is_one)
        self.assertIs(calms(net_of([2], [("part", 2, ("hear", 0))]), (0,), ()), True)

    def test_by_all_stirs(self):
        rng = random.Random(491)
        seen = [0, 0]
        for _ in range(40):
            net, rest = net_and_rest(rng)
            stirs = all_stirs(net, rest)
            for lot in all_lots(3):
                is_one = hits(lot, stirs)
                seen[is_one] += 1
                self.assertIs(calms(net, rest, lot), is_one)
        self.assertGreater(min(seen), 40)

    def test_further_houses_calm_too(self):
        rng = random.Random(492)
        for _ in range(30):
            net, rest = net_and_rest(rng, houses=4)
            calm = {lot: calms(net, rest, lot) for lot in all_lots(4)}
            self.assertIs(calm[0, 1, 2, 3], True)
            for lot, other in itertools.product(calm, repeat=2):
                if set(lot) <= set(other) and calm[lot]:
                    self.assertIs(calm[other], True)

    def test_the_net_comes_to_the_rest(self):
        rng = random.Random(493)
        for _ in range(60):
            net, rest = net_and_rest(rng)
            for lot in all_lots(3):
                if calms(net, rest, lot):
                    calm = fixed_lot(net, rest, lot)
                    self.assertEqual(the_rest(calm), rest)
                    self.assertEqual(shown(calm, 2, drawn_run(rng, calm, 2, 40))[-1], rest)

    def test_a_branch_that_goes_both_ways(self):
        for house in range(3):
            net = net_of([2, 2, 2], [("is", 0)] * house + [BOTH] * (3 - house))
            for ask in (lambda: calms(net, (0, 0, 0), (0, 1, 2)), lambda: fewest_houses(net, (0, 0, 0)),
                        lambda: fewest_paper(net, (0, 0, 0)), lambda: is_fewest_paper(net, (0, 0, 0), None)):
                with self.assertRaises(Refused) as caught:
                    ask()
                self.assertEqual(caught.exception.at, house)


class FewestTest(unittest.TestCase):
    def holds(self, net, rest):
        lot = fewest_houses(net, rest)
        own, stirs = paper = fewest_paper(net, rest)
        self.assertEqual((len(own), type(lot), type(own), type(stirs)), (len(lot), tuple, tuple, tuple))
        for told in lot, own:
            self.assertEqual(told, tuple(sorted(set(told))))
            self.assertIs(calms(net, rest, told), True)
        self.assertEqual(stirs, tuple(sorted(set(stirs))))
        self.assertTrue(all(is_stir(net, rest, ends) for ends in stirs))
        self.assertIs(is_fewest_paper(net, rest, paper), True)
        return lot, stirs

    def test_by_hand(self):
        self.assertEqual(len(self.holds(NET, REST)[0]), 2)
        self.assertEqual(self.holds(net_of([3], [("hear", 0)]), (2,))[0], (0,))
        self.assertEqual(self.holds(net_of([1] * 5, [("hear", house) for house in range(5)]), (0, 1, 0, 1, 1))[0], (0, 1, 2, 3, 4))
        self.assertEqual(len(self.holds(net_of([1] * 5, [("hear", (house + 1) % 5) for house in range(5)]), (1,) * 5)[0]), 1)

    def test_a_net_that_rests_always(self):
        net = net_of([3, 3], [("part", 2, ("hear", 1)), ("clip", 1, 2, ("hear", 0))])
        self.assertEqual((fewest_houses(net, (0, 1)), fewest_paper(net, (0, 1))), ((), ((), ())))
        self.assertIs(is_fewest_paper(net, (0, 1), ((), ())), True)
        self.assertIs(is_fewest_paper(net, (0, 1), ((0,), ())), False)

    def test_by_all_lots(self):
        rng = random.Random(501)
        sizes = {}
        for _ in range(150):
            net, rest = net_and_rest(rng, houses=rng.choice((1, 2, 3, 4)))
            lot, stirs = self.holds(net, rest)
            fewest = min(len(other) for other in all_lots(len(rest)) if rests_always(fixed_lot(net, rest, other)))
            self.assertEqual(len(lot), fewest)
            self.assertTrue(slow_is_paper(net, rest, lot, stirs))
            sizes[fewest] = sizes.get(fewest, 0) + 1
        self.assertTrue({0, 1, 2} <= set(sizes), sizes)

    def test_votes_of_several(self):
        # Each house shows 1 if two of those that it hears do: stirs of houses that hear one another, of many sizes.
        rng = random.Random(502)
        for _ in range(12):
            heard = [rng.sample([other for other in range(8) if other != house], 4) for house in range(8)]
            net = net_of([1] * 8, [("bar", 2, 0, 1, ("add", tuple(("hear", other) for other in row))) for row in heard])
            lot, stirs = self.holds(net, (0,) * 8)
            fewest = min(len(other) for other in all_lots(8) if calms(net, (0,) * 8, other))
            self.assertEqual(len(lot), fewest)
            self.assertTrue(slow_is_paper(net, (0,) * 8, lot, stirs))

    def test_20_houses(self):
        rng = random.Random(503)
        alone = net_of([1000] * 20, [("hear", house) for house in range(20)])
        self.assertEqual(self.holds(alone, (500,) * 20)[0], tuple(range(20)))
        pairs = net_of([1000] * 20, [("from", 1000, ("hear", house ^ 1)) for house in range(20)])
        lot = self.holds(pairs, (300, 700) * 10)[0]
        self.assertEqual(tuple(house // 2 for house in lot), tuple(range(10)))
        ring = net_of([1000] * 20, [("hear", (house + 1) % 20) for house in range(20)])
        self.assertEqual(len(self.holds(ring, (7,) * 20)[0]), 1)
        heard = [rng.sample([other for other in range(20) if other != house], 3) for house in range(20)]
        votes = net_of([1] * 20, [("bar", 2, 0, 1, ("add", tuple(("hear", other) for other in row))) for row in heard])
        self.holds(votes, (0,) * 20)
        far = net_of([1000] * 20, [("most", (("hear", house), ("from", 1, ("hear", (house + 7) % 20)))) for house in range(20)])
        self.assertEqual(len(self.holds(far, (1000,) * 20)[0]), 20)


class IsFewestPaperTest(unittest.TestCase):
    def told(self, is_one, value, net=NET, rest=REST):
        self.assertIs(is_fewest_paper(net, rest, value), is_one, value)

    def test_papers(self):
        self.told(True, PAPER)
        self.told(True, ((1, 2), PAPER[1]))
        self.told(True, ((0, 2), tuple(sorted(PAPER[1] + (((0, 0, 1), (1, 1, 1)),)))))

    def test_a_stir_too_few(self):
        for stirs in PAPER[1][:1], PAPER[1][1:], (), (((0, 0, 0), (2, 2, 2)),):
            self.told(False, ((0, 2), stirs))
        self.told(True, ((0,), (((0,), (1,)),)), net_of([1], [("hear", 0)]), (1,))
        self.told(False, ((0,), ()), net_of([1], [("hear", 0)]), (1,))

    def test_stirs_not_ascending(self):
        self.told(False, ((0, 2), PAPER[1][::-1]))
        self.told(False, ((0, 2), PAPER[1] + PAPER[1][1:]))
        self.told(False, ((0, 2), PAPER[1][:1] + PAPER[1]))

    def test_none_of_a_stir(self):
        # The lot has nobody of the last stir: so it does not calm either.
        self.told(False, ((0, 1), PAPER[1]))
        for other in (((1, 1, 1), (1, 1, 1)), ((1, 1, 1), (2, 1, 1)), ((2, 2, 1), (2, 2, 2)), ((1, 1, 2), (1, 1, 1)), ((1, 1, 1), (1, 1, 3)),
                      ((1, 1, 1), (1, 1)), None, ()):
            self.told(False, ((0, 2), PAPER[1][:1] + (other,)))
            self.told(False, ((0, 2), PAPER[1] + (other,)))
        self.told(False, ((0, 2), PAPER[1][:1] + (((1, 1, 1), (1, 1, 2), ()),)))
        self.told(False, ((0, 2), PAPER[1][:1] + (((1, 1, True), (1, 1, 2)),)))

    def test_a_lot_that_does_not_calm(self):
        for lot in (), (0,), (2,), (0, 1):
            self.told(False, (lot, PAPER[1]))
            self.told(False, (lot, PAPER[1][:len(lot)]))
            self.told(False, (lot, ()))

    def test_more_houses_than_needed(self):
        self.told(False, ((0, 1, 2), PAPER[1]))
        self.told(False, ((0, 1, 2), tuple(sorted(all_stirs(NET, REST)))))
        self.told(True, ((0, 2), tuple(sorted(all_stirs(NET, REST)))))

    def test_lots_that_are_none(self):
        for lot in ((2, 0), (0, 0, 2), (0, 3), (-1, 0, 2), [0, 2], (False, 2), (0, 2.0), ("0", 2), 2, None, {0: 2}):
            self.told(False, (lot, PAPER[1]))

    def test_any_value(self):
        for value in ODD_VALUES:
            self.told(False, value)
            self.told(False, (value, PAPER[1]))
            self.told(False, (PAPER[0], value))
            self.told(False, (PAPER[0], PAPER[1] + (value,)))
        for value in (list(PAPER), PAPER[:1], PAPER + ((),), (PAPER[0], list(PAPER[1]))):
            self.told(False, value)

    def test_unrest_in_common_shows_nothing_by_number(self):
        # Three stirs, each two of which have a house in common: two houses are needed, not three.
        net = net_of([1] * 3, [("most", (("hear", 1), ("hear", 2))), ("most", (("hear", 0), ("hear", 2))),
                               ("most", (("hear", 0), ("hear", 1)))])
        stirs = (((0, 0, 0), (0, 1, 1)), ((0, 0, 0), (1, 0, 1)), ((0, 0, 0), (1, 1, 0)))
        self.assertTrue(all(is_stir(net, (0, 0, 0), ends) for ends in stirs))
        self.told(True, ((0, 1), stirs), net, (0, 0, 0))
        self.told(False, ((0, 1, 2), stirs), net, (0, 0, 0))
        self.told(False, ((0, 1), stirs[:2]), net, (0, 0, 0))

    def test_drawn_papers(self):
        rng = random.Random(504)
        seen = [0, 0]
        for _ in range(80):
            net, rest = net_and_rest(rng)
            every = sorted(all_stirs(net, rest))
            for _ in range(6):
                stirs = tuple(sorted(rng.sample(every, rng.randint(0, min(len(every), 5)))))
                for lot in all_lots(3):
                    is_one = slow_is_paper(net, rest, lot, stirs)
                    seen[is_one] += 1
                    self.told(is_one, (lot, stirs), net, rest)
        self.assertGreater(min(seen), 100)

    def test_many_stirs(self):
        net = net_of([1000] * 20, [("hear", house) for house in range(20)])
        rest = (0,) * 20
        stirs = tuple(sorted((rest, tuple(high if house == at else 0 for house in range(20)))
                             for at in range(20) for high in range(1, 1001)))
        self.told(True, (tuple(range(20)), stirs), net, rest)
        self.told(False, (tuple(range(20)), stirs[1000:]), net, rest)
        self.assertEqual(last_ends(net), (rest, (1000,) * 20))


if __name__ == "__main__":
    unittest.main()

"""[51]: cuts, and the fewest branches."""

import itertools
import random
import unittest

from newsbehind.cutting import all_branches, cut_net, cuts_calm, fewest_cuts
from newsbehind.ends import last_ends
from newsbehind.errors import Refused
from newsbehind.mending import calms
from newsbehind.nets import is_net, is_rest, knots, net_of, next_state
from newsbehind.resting import rests_always, the_rest
from newsbehind.rules import branches, told
from newsbehind.ways import are_one_way, ways
from sampling import drawn_net, drawn_state, greatest_net, small_net
from test_stirs import BOTH, NET, REST, all_lots, net_and_rest


def all_cuts(net):
    every = all_branches(net)
    return [cuts for many in range(len(every) + 1) for cuts in itertools.combinations(every, many)]


class AllBranchesTest(unittest.TestCase):
    def test_by_hand(self):
        self.assertEqual(all_branches(NET), ((0, 0), (1, 0), (2, 0), (2, 1)))
        self.assertEqual(all_branches(net_of([1], [("is", 1)])), ())
        net = net_of([1, 1], [("is", 0), ("middle", ("hear", 0), ("hear", 0), ("add", (("hear", 1), ("is", 1))))])
        self.assertEqual(all_branches(net), ((1, 0), (1, 1), (1, 2)))

    def test_any_net(self):
        self.assertEqual(all_branches(net_of([2, 2], [BOTH, ("hear", 0)])), ((0, 0), (1, 0)))
        every = all_branches(greatest_net())
        self.assertEqual(every, tuple((house, branch) for house in range(20) for branch in range(12)))


class CutNetTest(unittest.TestCase):
    def test_by_hand(self):
        self.assertEqual(cut_net(NET, REST, ()), NET)
        rule = ("most", (("is", 2), ("hear", 2)))
        self.assertEqual(cut_net(NET, (2, 0, 1), ((2, 0),)), net_of([2] * 3, [("hear", 1), ("hear", 0), rule]))
        rule = ("most", (("hear", 0), ("is", 1)))
        self.assertEqual(cut_net(NET, (2, 0, 1), ((0, 0), (2, 1))), net_of([2] * 3, [("is", 0), ("hear", 0), rule]))

    def test_branches_within_all_kinds_of_rules(self):
        hears = tuple(("hear", house) for house in (1, 0, 1, 0, 1, 0, 1, 0, 1, 1, 0))
        rule = ("add", (("least", hears[:2]), ("middle", hears[2], hears[3], ("times", 3, hears[4])), ("clip", 1, 2, hears[5]),
                        ("from", 3, ("part", 2, hears[6])), ("bar", 1, 2, 0, hears[7]), ("row", (3, 1), ("most", hears[8:])), ("is", 1)))
        net = net_of([9, 9], [rule, ("hear", 0)])
        for branch, house in enumerate(branches(rule)):
            made = cut_net(net, (7, 8), ((0, branch),))
            self.assertIs(is_net(made), True)
            self.assertEqual(branches(made[1][0]), branches(rule)[:branch] + branches(rule)[branch + 1:])
            for heard in itertools.product((0, 9), repeat=10):
                whole = heard[:branch] + ((7, 8)[house],) + heard[branch:]
                self.assertEqual(told(made[1][0], heard), told(rule, whole))
        every = tuple((0, branch) for branch in range(11))
        self.assertEqual(branches(cut_net(net, (7, 8), every)[1][0]), ())
        self.assertEqual(cut_net(net, (7, 8), every)[1][1], ("hear", 0))

    def test_any_net(self):
        net = net_of([2, 2], [BOTH, ("hear", 0)])
        self.assertIs(are_one_way(net), False)
        self.assertEqual(cut_net(net, (1, 2), ((0, 0),)), net_of([2, 2], [("row", (0, 2, 1), ("is", 1)), ("hear", 0)]))

    def test_drawn_nets(self):
        rng = random.Random(511)
        for _ in range(80):
            net = rng.choice((small_net(rng), drawn_net(rng, houses=3, many=20)))
            state = drawn_state(rng, net)
            every = all_branches(net)
            cuts = tuple(sorted(rng.sample(every, rng.randint(0, len(every)))))
            made = cut_net(net, state, cuts)
            self.assertIs(is_net(made), True)
            self.assertEqual(next_state(made, state), next_state(net, state))
            self.assertEqual(len(all_branches(made)), len(every) - len(cuts))


class CutsCalmTest(unittest.TestCase):
    def test_by_hand(self):
        for cuts, is_one in (((), False), (((0, 0),), False), (((2, 1),), False), (((0, 0), (2, 1)), True), (((1, 0), (2, 1)), True),
                             (((0, 0), (2, 0)), False), (((0, 0), (1, 0), (2, 0), (2, 1)), True)):
            self.assertIs(cuts_calm(NET, REST, cuts), is_one)

    def test_the_facts(self):
        rng = random.Random(512)
        seen = [0, 0]
        for _ in range(60):
            net, rest = net_and_rest(rng)
            every = all_branches(net)
            if len(every) > 7:
                continue
            calm = {cuts: cuts_calm(net, rest, cuts) for cuts in all_cuts(net)}
            self.assertIs(calm[every], True)
            for cuts, is_one in calm.items():
                seen[is_one] += 1
                self.assertIs(is_one, rests_always(cut_net(net, rest, cuts)))
                if is_one:
                    self.assertEqual(the_rest(cut_net(net, rest, cuts)), rest)
                    for further in every:
                        self.assertIs(calm[tuple(sorted({*cuts, further}))], True)
            for lot in all_lots(3):
                if calms(net, rest, lot):
                    heard = tuple((house, branch) for house, branch in every if branches(net[1][house])[branch] in lot)
                    self.assertIs(calm[heard], True)
            ringed = tuple((house, branch) for house, branch in every for lot in knots(net)
                           if house in lot and branches(net[1][house])[branch] in lot)
            self.assertIs(calm[ringed], True)
        self.assertGreater(min(seen), 100)

    def test_a_branch_that_goes_both_ways(self):
        for house in range(3):
            net = net_of([2, 2, 2], [("is", 0)] * house + [BOTH] * (3 - house))
            for ask in (lambda: cuts_calm(net, (0, 0, 0), all_branches(net)), lambda: fewest_cuts(net, (0, 0, 0))):
                with self.assertRaises(Refused) as caught:
                    ask()
                self.assertEqual(caught.exception.at, house)


class FewestCutsTest(unittest.TestCase):
    def holds(self, net, rest):
        cuts = fewest_cuts(net, rest)
        self.assertIs(type(cuts), tuple)
        self.assertEqual(cuts, tuple(sorted(set(cuts))))
        self.assertTrue(set(cuts) <= set(all_branches(net)))
        self.assertIs(cuts_calm(net, rest, cuts), True)
        for house, branch in cuts:
            self.assertNotEqual(ways(net, house)[branch], "none")
        return cuts

    def test_by_hand(self):
        self.assertEqual(self.holds(net_of([2], [("hear", 0)]), (1,)), ((0, 0),))
        self.assertEqual(len(self.holds(NET, REST)), 2)
        self.assertEqual(self.holds(net_of([3, 3], [("part", 2, ("hear", 1)), ("clip", 1, 2, ("hear", 0))]), (0, 1)), ())
        self.assertEqual(self.holds(net_of([3], [("is", 2)]), (2,)), ())
        # One house would do, but it is heard by two branches that matter.
        net = net_of([2, 2, 2], [("most", (("hear", 1), ("hear", 2))), ("hear", 0), ("hear", 0)])
        self.assertEqual(len(self.holds(net, (0, 0, 0))), 2)
        twice = net_of([2], [("least", (("hear", 0), ("hear", 0)))])
        self.assertEqual(self.holds(twice, (2,)), ((0, 0), (0, 1)))
        self.assertEqual(len(self.holds(twice, (0,))), 1)

    def test_by_all_cuts(self):
        rng = random.Random(513)
        sizes = {}
        while sum(sizes.values()) < 150:
            net, rest = net_and_rest(rng, houses=rng.choice((1, 2, 3)))
            if len(all_branches(net)) > 8:
                continue
            fewest = min(len(cuts) for cuts in all_cuts(net) if rests_always(cut_net(net, rest, cuts)))
            self.assertEqual(len(self.holds(net, rest)), fewest)
            sizes[fewest] = sizes.get(fewest, 0) + 1
        self.assertTrue({0, 1, 2, 3} <= set(sizes), sizes)

    def test_16_branches_and_17(self):
        rng = random.Random(514)
        for many in (15, 16, 17, 18, 24):
            heard = [[] for _ in range(8)]
            for at in range(many):
                heard[at % 8].append(("hear", rng.choice([other for other in range(8) if other != at % 8])))
            net = net_of([1] * 8, [("most", tuple(row)) for row in heard])
            rest = (0,) * 8
            if many <= 16:
                self.holds(net, rest)
            else:
                with self.assertRaises(Refused) as caught:
                    fewest_cuts(net, rest)
                self.assertEqual(caught.exception.at, many)
        own = net_of([1000] * 16, [("hear", house) for house in range(16)])
        self.assertEqual(self.holds(own, (3,) * 16), all_branches(own))
        self.assertEqual(len(self.holds(net_of([1000] * 16, [("hear", (house + 1) % 16) for house in range(16)]), (3,) * 16)), 1)

    def test_too_many_branches_beside_one_that_goes_both_ways(self):
        net = net_of([2] * 17, [("hear", house) for house in range(16)] + [BOTH])
        self.assertEqual(len(all_branches(net)), 17)
        with self.assertRaises(Refused) as caught:
            fewest_cuts(net, (0,) * 17)
        self.assertEqual(caught.exception.at, 16)

    def test_too_many_branches_of_a_net_that_rests_always(self):
        net = net_of([2] * 17, [("times", 0, ("hear", 0))] * 17)
        self.assertEqual(last_ends(net), ((0,) * 17,) * 2)
        self.assertIs(is_rest(net, (0,) * 17), True)
        with self.assertRaises(Refused) as caught:
            fewest_cuts(net, (0,) * 17)
        self.assertEqual(caught.exception.at, 17)


if __name__ == "__main__":
    unittest.main()

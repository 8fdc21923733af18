"""[3]: the modules of chapters 5 to 8 with inputs at the limits, each answer within seconds."""

import random
import time
import unittest

from newsbehind.beats import shown
from newsbehind.cutting import fewest_cuts
from newsbehind.ends import ends_behind, first_ends, last_ends, next_ends, rounds_needed
from newsbehind.errors import InvalidQuestion, Refused
from newsbehind.exactways import exact_ways, shown_ways
from newsbehind.knotrounds import chain_rounds, knot_rounds
from newsbehind.looseruns import is_loose_run, loose_states
from newsbehind.lotpapers import is_lot_paper, lot_paper, restless_run
from newsbehind.lots import first_lots, is_sure, known_rounds, last_lots, lot_rounds, lots_next
from newsbehind.mending import calms, fewest_paper
from newsbehind.nets import is_rest, knots, net_of
from newsbehind.openparts import ends_given
from newsbehind.orbits import orbit, rings
from newsbehind.ranges import house_range, range_of
from newsbehind.resting import ends_at, resting_houses, rests_always, settled_from, the_rest
from newsbehind.restpapers import is_rest_paper, rest_paper
from newsbehind.rests import climb, rests
from newsbehind.rules import branches
from newsbehind.showing import can_show, even_run
from newsbehind.stirs import stir_left
from newsbehind.toggles import is_toggle, toggle_ends, toggle_run
from newsbehind.traps import is_trap, rest_within, toggle_within, trap_around
from newsbehind.ways import are_one_way, end_heard, ways
from sampling import drawn_lateness, drawn_net, drawn_run, drawn_state, greatest_net, greatest_rule, one_way

SECONDS = 40


def ring(fat):
    """20 houses round which one more is told till the tops: 20,000 rounds; if fat, with rules of 60 parts."""
    rules = []
    for house in range(20):
        rule = ("hear", (house - 1) % 20)
        if house == 0:
            rule = ("add", (rule, ("is", 1)))
        if fat:
            others = [("most", (("is", 1000), ("hear", (house - late) % 20))) for late in range(2, 13)]
            rule = ("least", (rule,) + tuple(others) + (("is", 1000),) * (25 if house else 23))
        rules.append(rule)
    return net_of([1000] * 20, rules)


class GreatNetsTest(unittest.TestCase):
    def setUp(self):
        self.begun = time.monotonic()

    def tearDown(self):
        self.assertLess(time.monotonic() - self.begun, SECONDS)

    def refused(self, at, ask, *arguments):
        with self.assertRaises(Refused) as caught:
            ask(*arguments)
        self.assertEqual(caught.exception.at, at)

    def test_a_ring_of_20_houses(self):
        net = ring(fat=False)
        self.assertEqual(rounds_needed(net), 20000)
        self.assertEqual(last_ends(net), ((1000,) * 20,) * 2)
        self.assertEqual(ends_behind(net, 19999), ((1000,) * 19 + (999,), (1000,) * 20))
        self.assertEqual(ends_behind(net, 10 ** 399), last_ends(net))
        self.assertEqual(settled_from(net, 9), 9 * 19999)
        self.assertEqual(ends_at(net, 2, 10 ** 399), last_ends(net))
        self.assertEqual(ends_at(net, 9, 9 * 20 - 1), ((1,) * 20, (1000,) * 20))
        paper = rest_paper(net)
        self.assertEqual(len(paper), 20001)
        self.assertIs(is_rest_paper(net, paper), True)
        self.assertIs(is_rest_paper(net, paper[:10000] + paper[10001:]), False)

    def test_a_ring_of_rules_of_60_parts(self):
        net = ring(fat=True)
        self.assertEqual(rounds_needed(net), 20000)
        self.assertEqual((rests_always(net), the_rest(net)), (True, (1000,) * 20))

    def test_a_paper_of_rules_of_60_parts(self):
        net = ring(fat=True)
        paper = rest_paper(net)
        self.assertIs(is_rest_paper(net, paper), True)

    def test_the_greatest_net(self):
        net = greatest_net()
        self.assertIs(are_one_way(net), True)
        self.assertEqual(len(ways(net, 3)), 12)
        self.assertEqual(range_of(net, greatest_rule()), house_range(net, 5))
        self.assertEqual(next_ends(net, first_ends(net)), ends_behind(net, 1))
        self.assertEqual(end_heard(net, 0, (0,) * 20, net[0])[1][-1], 1000 if ways(net, 0)[-1] != "falls" else 0)
        for house in range(20):
            self.refused(1001 ** 12, exact_ways, net, house)
            self.refused(1001 ** 12, shown_ways, net, house, 11)
        for ask in (lot_rounds, last_lots, known_rounds, is_sure):
            self.refused(1001 ** 12, ask, net)
        self.assertEqual(len(even_run(net, 9, (1000,) * 20, 2000)[1]), 2000)
        self.refused(5, can_show, net, 9, ((1000,) * 20,) * 9, 1999, 5)

    def test_drawn_nets_of_60_parts(self):
        rng = random.Random(151)
        for _ in range(8):
            net = one_way(rng, drawn_net(rng, houses=20, many=60))
            lows, highs = last_ends(net)
            self.assertLessEqual(rounds_needed(net), sum(net[0]))
            self.assertEqual(next_ends(net, (lows, highs)), (lows, highs))
            d = rng.choice((2, 9))
            for beat, state in enumerate(shown(net, d, drawn_run(rng, net, d, 30))):
                ends = ends_at(net, d, beat)
                self.assertTrue(all(low <= worth <= high for low, worth, high in zip(ends[0], state, ends[1])))
            if rests_always(net):
                self.assertIs(is_rest(net, the_rest(net)), True)
                self.assertIs(is_rest_paper(net, rest_paper(net)), True)
            else:
                self.assertIs(is_toggle(net, toggle_ends(net)), True)
                states = shown(net, d, toggle_run(net, d, toggle_ends(net), 8))
                self.assertEqual(states, toggle_ends(net) * 4)
                self.assertEqual(len(resting_houses(net)), sum(low == high for low, high in zip(lows, highs)))

    def test_papers_of_as_many_tuples_as_may_be_passed(self):
        rng = random.Random(152)
        net = net_of([1000] * 20, [("from", 1000, ("part", 1000, ("hear", (house - 1) % 20))) for house in range(20)])
        wide = first_ends(net)
        self.assertIs(is_rest_paper(net, (wide,) * 33000), False)
        narrow = [((999,) * 20, (1000,) * 20), (drawn_state(rng, net), (1000,) * 20)]
        entries = [wide] + [rng.choice(narrow + [wide]) for _ in range(33000)]
        self.assertIn(is_rest_paper(net, tuple(entries)), (True, False))

    def test_lots_of_a_ring(self):
        net = ring(fat=False)
        rounds = lot_rounds(net)
        self.assertEqual(len(rounds), 20001)
        for at in (0, 1, 21, 10000, 19999, 20000):
            lows, highs = ends_behind(net, at)
            self.assertEqual((tuple(lot[0] for lot in rounds[at]), tuple(lot[-1] for lot in rounds[at])), (lows, highs))
            self.assertTrue(all(len(lot) == lot[-1] - lot[0] + 1 for lot in rounds[at]))
        self.assertTrue(lots_next(net, rounds[5000]) == rounds[5001])
        self.assertEqual(known_rounds(net), tuple(range(19981, 20001)))
        self.assertIs(is_sure(net), True)

    def test_lots_of_4096_rows_and_60_parts(self):
        rng = random.Random(153)
        for heard, top in ((12, 1), (6, 3), (4, 7), (3, 15), (2, 63)):
            rules = []
            for house in range(20):
                parts = [("times", rng.randint(1, 9), ("hear", (house + late) % 20)) for late in range(heard)]
                rule = ("part", heard * 4, ("add", tuple(parts) + (("is", 3),) * (54 - 2 * heard)))
                rules.append(("clip", 0, 1000, ("from", 1000, ("from", 1000, ("most", (rule,))))))
            net = net_of([top] * 20, rules)
            rounds = lot_rounds(net)
            self.assertTrue(lots_next(net, first_lots(net)) == rounds[1])
            self.assertTrue(lots_next(net, rounds[-1]) == rounds[-1] == last_lots(net))
            paper = lot_paper(net)
            self.assertEqual(paper is None, is_sure(net))
            if paper:
                self.assertTrue(paper[0] == rounds[-1])
                self.assertIs(is_lot_paper(net, paper), True)
            words = exact_ways(net, 7)
            self.assertEqual(len(words), len(branches(net[1][7])))
            self.assertEqual([row is None for row in shown_ways(net, 7, 0)], [words[0] not in ("rises", "both"), True])

    def test_papers_of_lots_of_4096_rows(self):
        # Each house turns its own worth round and hears the others for nothing: the last lots are the first ones.
        for heard, top in ((12, 1), (6, 3), (4, 7), (2, 63)):
            row = tuple(range(1, top + 1)) + (0,)
            idle = tuple(("times", 0, ("hear", number)) for number in range(heard - 1))
            rules = [("add", (("row", row, ("hear", house)),) + idle) for house in range(20)]
            net = net_of([top] * 20, rules)
            paper = lot_paper(net)
            self.assertTrue(paper[0] == first_lots(net))
            self.assertIs(is_lot_paper(net, paper), True)
            if top < 9:
                run = restless_run(net, paper, 9, 60)
                self.assertIs(is_loose_run(net, run), True)
                self.assertEqual(loose_states(net, run)[-1], (59 % (top + 1),) * 20)
            else:
                with self.assertRaises(InvalidQuestion):
                    restless_run(net, paper, 9, 60)

    def test_knots_traps_and_mending_of_20000_rounds(self):
        for fat in False, True:
            net = ring(fat)
            self.assertEqual((knot_rounds(net), chain_rounds(net)), ((20000,), 20000))
            self.assertEqual(trap_around(net, (500,) * 20), ((500,) * 20, (1000,) * 20))
            self.assertEqual(rest_within(net, ((0,) * 20, (1000,) * 20)), (1000,) * 20)
            self.assertIs(toggle_within(net, ((7,) * 20, (1000,) * 20)), None)
            self.assertEqual((calms(net, (1000,) * 20, ()), fewest_paper(net, (1000,) * 20)), (True, ((), ())))
            self.assertIs(stir_left(net, (1000,) * 20, (3,)), None)
            self.assertEqual(ends_given(net, (19,), ((0,), (998,)))[0][:2], (1, 1))
        self.assertEqual(climb(ring(False), (0,) * 20), (1000,) * 20)
        self.assertEqual(len(orbit(ring(False), (0,) * 20, 20001)[0]), 20000)
        self.refused(20000, orbit, ring(False), (0,) * 20, 20000)

    def test_the_greatest_net_is_mended(self):
        net = greatest_net()
        self.refused(1001 ** 20, rests, net, 10 ** 6)
        self.refused(1001 ** 20, rings, net, 10 ** 6)
        self.refused(240, fewest_cuts, net, (1000,) * 20)
        self.assertEqual(len(knot_rounds(net)), len(knots(net)))
        self.assertIs(is_trap(net, trap_around(net, (3,) * 20)), True)

    def test_as_many_states_as_most_tells(self):
        net = net_of([999, 499], [("hear", 1), ("hear", 0)])
        self.assertEqual(len(rests(net, 500000)), 500)
        self.refused(500000, rests, net, 499999)
        self.assertEqual(sum(count for _, count in rings(net, 500000)), 500000)
        self.refused(500000, rings, net, 499999)

    def test_a_loose_run_of_the_greatest_net(self):
        rng = random.Random(155)
        net = greatest_net()
        run = (tuple(drawn_state(rng, net) for _ in range(9)), tuple(drawn_lateness(rng, net, 9) for _ in range(60)))
        self.assertIs(is_loose_run(net, run), True)
        self.assertEqual(len(loose_states(net, run)), 60)

    def test_all_that_shows_of_many_latenesses(self):
        net = net_of([1000, 1000], [("from", 1000, ("hear", 1)), ("part", 2, ("add", (("hear", 0), ("hear", 1))))])
        rng = random.Random(154)
        past = tuple(drawn_state(rng, net) for _ in range(9))
        states = {(1000 - one[1], min(1000, (two[0] + three[1]) // 2)) for one in past for two in past for three in past}
        self.assertTrue(can_show(net, 9, past, 0, 9 ** 3) == tuple(sorted(states)))
        self.refused(10 ** 5, can_show, net, 9, past, 1999, 10 ** 5)
        calm = net_of([1000] * 12, [("part", 1000, ("hear", (house + 1) % 12)) for house in range(12)])
        self.assertEqual(can_show(calm, 2, ((9,) * 12,) * 2, 1999, 4096), ((0,) * 12,))


if __name__ == "__main__":
    unittest.main()

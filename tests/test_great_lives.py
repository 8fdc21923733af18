"""[3]: the modules of chapters 13 to 16 with inputs at the limits, each answer within seconds."""

import random
import time
import unittest

from newsbehind.beats import shown
from newsbehind.ends import ends_behind, last_ends
from newsbehind.endtables import ends_table, unlike_row
from newsbehind.errors import InvalidNet, Refused
from newsbehind.lateness import is_run
from newsbehind.lives import diary, lived
from newsbehind.living import begun, closed, is_life, known, rests_in
from newsbehind.livingchanges import changed, is_change
from newsbehind.losses import are_lossy, filled, longest_loss, settled_with
from newsbehind.nets import net_of
from newsbehind.plainruns import plain_run
from newsbehind.settings import first_toggling, resting_settings, settings
from newsbehind.stops import is_stopped_run, stopped_shown
from newsbehind.together import joined_ends, put_together
from sampling import drawn_lossy, drawn_past, drawn_stopped_run, greatest_net, greatest_rule
from test_great_nets import SECONDS, ring


class GreatLivesTest(unittest.TestCase):
    def setUp(self):
        self.begun = time.monotonic()

    def tearDown(self):
        self.assertLess(time.monotonic() - self.begun, SECONDS)

    def test_tables_of_a_ring(self):
        # The last house is the input; the others climb as far as it lets them, one by one and round again.
        for fat in False, True:
            tops, rules = ring(fat)
            climbing = ("least", (("add", (("hear", 18), ("is", 1))), ("times", 38, ("hear", 19))))
            net = net_of(tops[:19] + (26,), (climbing,) + rules[1:])
            table = ends_table(net, (19,), (0, 18))
            self.assertEqual(len(table), 378)
            for ends, told in table:
                self.assertEqual(told, tuple((38 * end[0],) * 2 for end in ends))
            self.assertIs(unlike_row(table, table), None)

    def test_tables_of_the_greatest_net(self):
        net = net_of([1, 1, 1, 1, 0] + [1000] * 15, greatest_net()[1])
        table = ends_table(net, (0, 1, 2, 3, 4), tuple(range(20)))
        self.assertEqual(len(table), 81)
        whole = put_together(net_of(net[0][:10], [("hear", 0)] * 10), net_of(net[0][:10], [("hear", 1)] * 10), ((0, 19),))
        self.assertEqual(len(whole[0]), 20)
        with self.assertRaises(InvalidNet):
            put_together(net, net_of([0], [("is", 0)]), ())

    def test_tables_joined(self):
        net = net_of([26] + [1000] * 9, [("is", 0)] + [("part", 2,
                                                        ("add",
                                                         (("hear", house), ("hear", house + 1)))) for house in range(9)])
        table = ends_table(net, (0,), (9,))
        self.assertEqual(joined_ends(table, table, (0,), (0,)), tuple(
            (ends[0][9:10], ends[1][9:10]) for ends in (last_ends(put_together(net, net, ((0, 19), (10, 9)))),) * 2))

    def test_stopped_runs_of_2000_beats(self):
        rng = random.Random(661)
        net = greatest_net()
        for d, e in ((9, 1), (2, 8)):
            run = drawn_stopped_run(rng, net, d, e, 500, often=0.2)
            self.assertIs(is_stopped_run(net, d, e, run), True)
            self.assertEqual(len(stopped_shown(net, d, run)), 500)
        small = net_of([9] * 20, [("add", (("hear", (house + 1) % 20), ("is", 1))) for house in range(20)])
        run = drawn_stopped_run(rng, small, 5, 5, 2000, often=0.2)
        self.assertIs(is_stopped_run(small, 5, 5, run), True)
        states = stopped_shown(small, 5, run)
        told = plain_run(small, 5, 5, run)
        self.assertIs(is_run(small, 9, told), True)
        self.assertTrue(shown(small, 9, told) == states[4:])

    def test_losses_of_2000_beats(self):
        rng = random.Random(662)
        net = greatest_net()
        rows = drawn_lossy(rng, net, 5, 4, 400)
        self.assertIs(are_lossy(net, 5, rows), True)
        self.assertEqual(longest_loss(rows), 4)
        self.assertIs(is_run(net, 9, (drawn_past(rng, net, 9), filled(rows))), True)
        small = net_of([1000], [("hear", 0)])
        rows = drawn_lossy(rng, small, 2, 7, 2000)
        self.assertIs(are_lossy(small, 2, rows), True)
        self.assertEqual(len(filled(rows)), 2000)
        self.assertEqual(settled_with(ring(False), 2, 4, 4), 3 + 9 * 19999)

    def test_lives_of_20000_rounds(self):
        for fat in False, True:
            net = ring(fat)
            life = begun(net, 9)
            self.assertIs(is_life(life), True)
            self.assertEqual(rests_in(life), 180000)
            for age in (9 * 19999, 10 ** 399) if fat else (8, 9, 9 * 19999, 9 * 20000 - 1, 9 * 20000, 10 ** 399):
                self.assertEqual(known(life[:3] + (age,)), ends_behind(net, age // 9))
            self.assertEqual(rests_in(life[:3] + (179999,)), 1)
            self.assertEqual(closed(net, ((500,) * 20, (600,) * 20)), ((500,) * 20, (1000,) * 20))
            told = lived(life, [("wait", 10000)] * 20)
            self.assertEqual((told[3], rests_in(told)), (200000, 0))
            # The first house hears 1 from the last one and wants 2; what was seen of it besides is not kept for ever.
            seen = changed(lived(life, [("wait", 9)] * 21), ("seen", 0, 3, 1000))
            self.assertEqual(seen[2], ((2,) + (1,) * 19, (1000,) * 20))

    def test_long_diaries(self):
        net = ring(False)
        told = diary(begun(net, 2), [("wait", 20)] * 2000)
        self.assertEqual((len(told), told[0][1], told[-1]), (2001, 40000, (((1000,) * 20,) * 2, 0)))
        told = diary(begun(net, 2), [("wait", 100), ("seen", 0, 0, 1000)] * 10)
        self.assertEqual([beats for _, beats in told[::2]], [40000 - 100 * at for at in range(11)])
        changes = [("rule", house, ("hear", (house + 7) % 20)) for house in range(20)] * 5
        self.assertEqual(lived(begun(net, 2), changes)[2], ((0,) * 20, (1000,) * 20))

    def test_changes_of_the_greatest_net(self):
        life = begun(greatest_net(), 2)
        self.assertIs(is_change(life, ("rule", 19, greatest_rule(20))), True)
        self.assertIs(is_change(life, ("house", 1000, ("is", 0))), False)
        self.assertIs(is_change(life, ("seen", 19, 0, 10 ** 399)), True)
        deep = ()
        for _ in range(45):
            deep = (deep, deep[:1])
        for value in (("rule", 0, deep), (deep,) * 3, ((1, 2, 3),) * 25000, ("rule", 0, (("is", 1),) * 30000),
                      ("wait", deep)):
            self.assertIs(is_change(life, value), False)
            self.assertIs(is_life(value), False)

    def test_2000_settings(self):
        for fat in False, True:
            tops, rules = ring(fat)
            climbing = ("least", (("add", (("hear", 18), ("is", 1))), ("hear", 19)))
            net = net_of(tops, (climbing,) + rules[1:])
            self.assertEqual(resting_settings(net, (19,)), settings(net, (19,)))
            self.assertIs(first_toggling(net, (19,)), None)
        # From a setting of 700 on the ring climbs up, below it may stay anywhere.
        climbing = ("most", (("hear", 18), ("bar", 700, 0, 1000, ("hear", 19))))
        net = net_of(tops, (climbing,) + tuple(("hear", house) for house in range(18)) + (("is", 0),))
        self.assertEqual(resting_settings(net, (19,)), tuple((worth,) for worth in range(700, 1001)))
        self.assertEqual(first_toggling(net, (19,)), (0,))
        net = net_of((1000,) * 9 + (1,) * 10 + (0,), [("hear", (house + 1) % 9) for house in range(9)] + [("is", 0)] * 11)
        with self.assertRaises(Refused) as caught:
            resting_settings(net, tuple(range(8, 20)))
        self.assertEqual(caught.exception.at, 1001 * 1024)
        self.assertEqual(resting_settings(net, tuple(range(10, 20))), ())
        self.assertEqual(len(settings(net, tuple(range(10, 20)))), 512)


if __name__ == "__main__":
    unittest.main()

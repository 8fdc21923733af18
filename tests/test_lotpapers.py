"""[31] and [32]: papers of lots, and the runs in which their worths come again and again."""

import itertools
import random
import unittest

from newsbehind.errors import InvalidQuestion, Refused
from newsbehind.lateness import is_run
from newsbehind.lotpapers import is_lot_paper, lot_paper, restless_run
from newsbehind.lots import is_sure, last_lots
from newsbehind.looseruns import is_loose_run, loose_states
from newsbehind.nets import net_of, wanted
from newsbehind.rules import branches
from sampling import ODD_VALUES, greatest_net, small_net

TURN = net_of([2], [("row", (1, 2, 0), ("hear", 0))])
PAPER = (((0, 1, 2),), (((2,), (0,), (1,)),))
TWO = net_of([2, 1], [("row", (1, 2, 0), ("hear", 0)), ("bar", 1, 1, 0, ("least", (("hear", 0), ("hear", 1))))])
# House 1 hears two others; only house 0 never rests.
MIXED = net_of([1, 9], [("from", 1, ("hear", 0)), ("add", (("is", 4), ("times", 0, ("hear", 0)), ("times", 0, ("hear", 1))))])
MIXED_PAPER = (((0, 1), (4,)), (((1,), (0,)), ((0, 4),)))


def slow_is_paper(net, lots, reasons):
    if all(len(lot) == 1 for lot in lots):
        return False
    for house, lot in enumerate(lots):
        if len(reasons[house]) != len(lot):
            return False
        for worth, row in zip(lot, reasons[house]):
            if not all(brought in lots[other] for brought, other in zip(row, branches(net[1][house]))):
                return False
            if wanted(net, house, row) != worth:
                return False
    return True


class IsLotPaperTest(unittest.TestCase):
    def told(self, is_one, value, net=TURN):
        self.assertIs(is_lot_paper(net, value), is_one, value)

    def test_papers(self):
        self.told(True, PAPER)
        self.told(True, MIXED_PAPER, MIXED)
        self.told(True, (((0, 1), (4,)), (((1,), (0,)), ((1, 4),))), MIXED)

    def test_all_lots_of_one_worth(self):
        # Rests are lots that stay, yet no papers.
        net = net_of([3, 3], [("hear", 0), ("hear", 1)])
        self.told(False, (((2,), (3,)), (((2,),), ((3,),))), net)
        self.told(True, (((2,), (1, 3)), (((2,),), ((1,), (3,)))), net)

    def test_a_row_that_wants_another_worth(self):
        self.told(False, (((0, 1, 2),), (((2,), (0,), (0,)),)))
        self.told(False, (((0, 1, 2),), (((0,), (1,), (2,)),)))
        self.told(False, (((0, 1), (4,)), (((0,), (1,)), ((0, 4),))), MIXED)

    def test_a_top_cuts_what_is_wanted(self):
        net = net_of([1], [("add", (("hear", 0), ("times", 9, ("hear", 0))))])
        self.told(True, (((0, 1),), (((0, 0), (1, 0)),)), net)

    def test_a_row_that_brings_a_worth_outside_of_the_lot(self):
        net = net_of([3], [("bar", 2, 0, 1, ("hear", 0))])
        self.told(False, (((0, 1),), (((0,), (2,)),)), net)
        self.told(False, (((0, 1),), (((0,), (3,)),)), net)
        self.told(False, (((0, 1), (4,)), (((1,), (0,)), ((2, 4),))), MIXED)
        self.told(False, (((0, 1), (4,)), (((1,), (0,)), ((0, 0),))), MIXED)

    def test_rows_of_other_lengths(self):
        for row in ((), (2, 2), (2, 0), 2, [2], None, (True,), ((2,),), ("2",)):
            self.told(False, (((0, 1, 2),), ((row, (0,), (1,)),)))
        still = net_of([1, 0], [("hear", 0), ("is", 0)])
        self.told(True, (((0, 1), (0,)), (((0,), (1,)), ((),))), still)
        self.told(False, (((0, 1), (0,)), (((0,), (1,)), ((0,),))), still)

    def test_worths_that_are_truth_values(self):
        net = net_of([1], [("hear", 0)])
        self.told(True, (((0, 1),), (((0,), (1,)),)), net)
        self.told(False, (((0, True),), (((0,), (1,)),)), net)
        self.told(False, (((0, 1),), (((0,), (True,)),)), net)
        self.told(False, (((0, 1),), (((False,), (1,)),)), net)

    def test_too_many_rows_and_too_few(self):
        rows = PAPER[1][0]
        for wrong in (rows[:2], rows + ((2,),), (), list(rows), None, rows[0]):
            self.told(False, (PAPER[0], (wrong,)))
        for wrong in ((), (rows, rows), [rows], rows, None):
            self.told(False, (PAPER[0], wrong))

    def test_lots_that_are_no_lots(self):
        net = net_of([2], [("hear", 0)])

        def paper(lot):
            return ((lot,), (tuple((worth,) for worth in lot),))

        for lot in ((0, 1), (0, 2), (1, 2), (0, 1, 2)):
            self.told(True, paper(lot), net)
        for lot in ((), (0,), (1, 0), (0, 0), (0, 1, 1), (0, 3), (-1, 0), (0, 1, 2, 3), [0, 1], (False, 1), ("0", "1")):
            self.told(False, paper(lot), net)
        for lots in ((), ((0, 1), (0, 1)), [(0, 1)], (0, 1), None):
            self.told(False, (lots, (((0,), (1,)),)), net)

    def test_lots_of_houses_that_nobody_hears(self):
        net = net_of([1, 1, 1], [("hear", 0), ("is", 1), ("is", 1)])
        reasons = ((0,), (1,))
        self.told(True, (((0, 1), (1,), (1,)), (reasons, ((),), ((),))), net)
        self.told(False, (((0, 1), (), (1,)), (reasons, (), ((),))), net)
        self.told(False, (((0, 1), (1,), ()), (reasons, ((),), ())), net)
        self.told(False, (((0, 1), (1,), (1, 1)), (reasons, ((),), ((), ()))), net)

    def test_any_value(self):
        for value in ODD_VALUES:
            self.told(False, value)
            self.told(False, (value, PAPER[1]))
            self.told(False, (PAPER[0], value))
            self.told(False, ((value,), PAPER[1]))
            self.told(False, (PAPER[0], (value,)))
        self.told(False, list(PAPER))
        self.told(False, PAPER + ((),))
        self.told(False, PAPER[:1])

    def test_all_papers_of_a_small_net(self):
        net = net_of([1, 1], [("from", 1, ("hear", 1)), ("most", (("hear", 0), ("hear", 1)))])
        kinds = [(0,), (1,), (0, 1)]
        rows = [[(0,), (1,)], [(0, 0), (0, 1), (1, 0), (1, 1)]]
        found = 0
        for lots in itertools.product(kinds, repeat=2):
            for first in itertools.product(rows[0], repeat=len(lots[0])):
                for second in itertools.product(rows[1], repeat=len(lots[1])):
                    is_one = slow_is_paper(net, lots, (first, second))
                    self.told(is_one, (lots, (first, second)), net)
                    found += is_one
        self.assertGreater(found, 1)

    def test_nets_of_many_rows_are_not_refused(self):
        net = net_of([1000] * 3, [("least", (("hear", 0), ("hear", 1), ("hear", 2)))] * 3)
        lots = tuple(tuple(range(1001)) for _ in range(3))
        rows = tuple((worth,) * 3 for worth in range(1001))
        self.told(True, (lots, (rows,) * 3), net)
        self.told(False, (lots, (rows,) * 2 + (rows[:-1] + ((1000, 999, 1000),),)), net)


class LotPaperTest(unittest.TestCase):
    def test_of_sure_nets_there_is_none(self):
        for net in net_of([3], [("part", 2, ("hear", 0))]), net_of([0], [("hear", 0)]), net_of([5], [("is", 7)]):
            self.assertIs(lot_paper(net), None)

    def test_of_others_there_is_one(self):
        for net in (TURN, TWO, MIXED, net_of([1000], [("hear", 0)])):
            paper = lot_paper(net)
            self.assertIs(is_lot_paper(net, paper), True)
            self.assertEqual(paper[0], last_lots(net))

    def test_drawn_nets(self):
        rng = random.Random(311)
        seen = [0, 0]
        for _ in range(300):
            net = small_net(rng, heard=4)
            paper = lot_paper(net)
            seen[is_sure(net)] += 1
            self.assertEqual(paper is None, is_sure(net))
            if paper:
                self.assertTrue(paper[0] == last_lots(net) and slow_is_paper(net, *paper))
                self.assertIs(is_lot_paper(net, paper), True)
                longer = paper[0], paper[1][:-1] + (paper[1][-1] + paper[1][-1][:1],)
                self.assertIs(is_lot_paper(net, longer), False)
        self.assertGreater(min(seen), 60)

    def test_too_many_rows(self):
        for many, net in ((4097, net_of([16, 240], [("add", (("hear", 0), ("hear", 1))), ("is", 0)])),
                          (1001 ** 12, greatest_net())):
            with self.assertRaises(Refused) as caught:
                lot_paper(net)
            self.assertEqual(caught.exception.at, many)
        net = net_of([63, 63], [("add", (("hear", 0), ("hear", 1))), ("most", (("hear", 0), ("hear", 1)))])
        paper = lot_paper(net)
        self.assertIs(is_lot_paper(net, paper), True)

    def test_a_paper_of_changed_rules(self):
        # The other rule hears the same house and wants the same at the rows told.
        net = net_of([2], [("row", (1, 2, 0, 7), ("times", 1, ("hear", 0)))])
        self.assertIs(is_lot_paper(net, PAPER), True)


class RestlessRunTest(unittest.TestCase):
    def shows(self, net, paper, late, beats):
        run = restless_run(net, paper, late, beats)
        self.assertIs(is_loose_run(net, run), True)
        self.assertEqual((len(run[0]), len(run[1])), (late, beats))
        states = run[0] + loose_states(net, run)
        for beat, state in zip(range(-late, beats), states):
            self.assertEqual(state, tuple(lot[beat % len(lot)] for lot in paper[0]))
        for beat, lateness in enumerate(run[1]):
            for house, row in enumerate(lateness):
                reason = paper[1][house][beat % len(paper[0][house])]
                for other, late_one, brought in zip(branches(net[1][house]), row, reason):
                    fits = [before for before in range(1, late + 1) if states[late + beat - before][other] == brought]
                    self.assertEqual(late_one, fits[0])
        return run

    def test_by_hand(self):
        self.assertEqual(restless_run(TURN, PAPER, 3, 2), (((0,), (1,), (2,)), (((1,),), ((1,),))))
        self.assertEqual(restless_run(TURN, PAPER, 4, 1), (((2,), (0,), (1,), (2,)), (((1,),),)))
        self.assertEqual(self.shows(MIXED, MIXED_PAPER, 2, 3), (((0, 4), (1, 4)), (((1,), (2, 1)), ((1,), (1, 1)), ((1,), (2, 1)))))

    def test_the_least_lateness(self):
        # Each worth wants itself, so it is heard as many beats ago as the lot has worths.
        net = net_of([8], [("hear", 0)])
        for many in range(2, 10):
            lot = tuple(range(many))
            paper = ((lot,), (tuple((worth,) for worth in lot),))
            for late in range(many, 10):
                run = self.shows(net, paper, late, 12)
                self.assertEqual(set(run[1]), {((many,),)})

    def test_lots_with_more_worths_than_late(self):
        net = net_of([9, 3], [("hear", 0), ("is", 3)])
        for many in range(2, 11):
            lot = tuple(range(many))
            paper = ((lot, (3,)), (tuple((worth,) for worth in lot), ((),)))
            for late in range(2, 10):
                if many <= late:
                    self.shows(net, paper, late, 3)
                else:
                    with self.assertRaises(InvalidQuestion) as caught:
                        restless_run(net, paper, late, 3)
                    self.assertEqual(caught.exception.at, 2)

    def test_no_beats_and_60(self):
        self.assertEqual(self.shows(TURN, PAPER, 9, 0)[1], ())
        self.shows(TURN, PAPER, 9, 60)
        self.shows(MIXED, MIXED_PAPER, 2, 60)

    def test_drawn_papers(self):
        rng = random.Random(312)
        seen = 0
        while seen < 150:
            net = small_net(rng, heard=4)
            paper = lot_paper(net)
            if paper:
                seen += 1
                most = max(len(lot) for lot in paper[0])
                run = self.shows(net, paper, rng.randint(max(most, 2), 9), 20)
                states = loose_states(net, run)
                for house, lot in enumerate(paper[0]):
                    worths = [state[house] for state in states]
                    self.assertIs(any(one == other for one, other in zip(worths, worths[1:])), len(lot) == 1)

    def test_with_two_worths_news_does_not_overtake(self):
        rng = random.Random(313)
        seen = 0
        while seen < 100:
            net = small_net(rng, top=rng.choice((1, 3)), heard=4)
            paper = lot_paper(net)
            if paper and max(len(lot) for lot in paper[0]) == 2:
                seen += 1
                run = self.shows(net, paper, 2, 12)
                self.assertIs(is_run(net, 2, run), True)
                self.assertLessEqual({late for lateness in run[1] for row in lateness for late in row}, {1, 2})

    def test_tops_of_1(self):
        # Sure nets rest with D = 2; all others have a run of chapter 5 that never rests.
        rng = random.Random(314)
        sure = [0, 0]
        for _ in range(150):
            net = small_net(rng, top=1, heard=4)
            paper = lot_paper(net)
            sure[is_sure(net)] += 1
            if paper:
                run = restless_run(net, paper, 2, 40)
                self.assertIs(is_run(net, 2, run), True)
                states = loose_states(net, run)
                self.assertEqual(states[::2], states[:1] * 20)
                self.assertNotEqual(states[0], states[1])
        self.assertGreater(min(sure), 20)


if __name__ == "__main__":
    unittest.main()

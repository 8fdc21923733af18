"""[76] and [77]: sheets; [79]: just one of both kinds."""

import random
import unittest

from newsbehind.ends import last_ends
from newsbehind.errors import InvalidQuestion, Refused
from newsbehind.losses import settled_with
from newsbehind.mending import fewest_paper
from newsbehind.nets import net_of
from newsbehind.pricing import priced
from newsbehind.resting import rests_always, the_rest
from newsbehind.rests import rests
from newsbehind.shares import share_between
from newsbehind.sheets import sheet, sheet_holds, wrong_sheets
from newsbehind.stops import stopped_shown
from newsbehind.tablenets import table_net_of
from newsbehind.toggles import is_toggle, toggle_run
from newsbehind.beats import shown
from sampling import ODD_VALUES, drawn_stopped_run, one_way, small_net
from tables import ODD_RATIOS, drawn_table_net

CALM = net_of([3, 3], [("part", 2, ("hear", 1)), ("clip", 1, 2, ("hear", 0))])
CALM_PAPER = (((0, 0), (3, 3)), ((0, 1), (1, 2)), ((0, 1), (1, 1)), ((0, 1), (0, 1)))
TURNING = net_of([3, 3], [("from", 3, ("hear", 1)), ("most", (("is", 1), ("hear", 0)))])
MEND = net_of([2, 2, 2], [("hear", 1), ("hear", 0), ("most", (("hear", 0), ("hear", 2)))])
MEND_PAPER = ((0, 2), (((0, 0, 1), (2, 2, 1)), ((1, 1, 1), (1, 1, 2))))
PRICED = table_net_of([[0, (1, 2)], [-1, (1, 4)]], [1, 0])
SWINGING = table_net_of([[2]], [0])
SHARE = share_between(PRICED, 4)
BOTH = net_of([2, 2], [("row", (0, 2, 1), ("hear", 1)), ("is", 0)])

# For each kind a question, a value that holds, and some that do not.
KINDS = {
    "rest": ((CALM,), CALM_PAPER, (CALM_PAPER[1:], CALM_PAPER[:-1], (), list(CALM_PAPER), None, CALM_PAPER[-1])),
    "toggle": ((TURNING,), ((1, 1), (2, 2)), (((0, 0), (3, 3)), ((1, 1), (1, 1)), [(1, 1), (2, 2)], None, ())),
    "trap": ((TURNING,), ((0, 0), (3, 3)), (((0, 0), (1, 1)), ((1, 1), (2, 3)), ((0, 0), (3, 4)), [(0, 0), (3, 3)], None)),
    "fewest": ((MEND, (1, 1, 1)), MEND_PAPER, (((0, 1), MEND_PAPER[1]), ((0, 2), ()), (MEND_PAPER[0], MEND_PAPER[1][::-1]),
                                               ((0, 1, 2), MEND_PAPER[1]), list(MEND_PAPER), None)),
    "prices": ((PRICED,), (2, 3), ((1, 1), (2, 0), (2,), [2, 3], None, ("prices", (2, 3)))),
    "swing": ((SWINGING,), (1,), ((0,), (-1,), (1, 1), [1], None, ("swing", (1,)))),
    "share": ((PRICED, 4), SHARE, (SHARE[:3], (SHARE[1], SHARE[0]) + SHARE[2:], SHARE[:2] + ((0, 0), SHARE[3]), list(SHARE),
                                   None)),
}


class SheetHoldsTest(unittest.TestCase):
    def told(self, is_one, value):
        self.assertIs(sheet_holds(value), is_one, value)

    def test_each_kind(self):
        for name, (question, value, others) in KINDS.items():
            self.told(True, (name, question, value))
            for other in others:
                self.told(False, (name, question, other))
            for odd in ODD_VALUES + ODD_RATIOS:
                self.told(repr((name, odd)) == "('swing', (1,))", (name, question, odd))

    def test_kinds_are_not_taken_for_one_another(self):
        for name, (question, value, _) in KINDS.items():
            for other, (other_question, _, _) in KINDS.items():
                fits = (name == other) or (name == "toggle" and other == "trap")
                self.told(fits, (other, other_question, value))
        # What is a toggle is a trap; what is a trap need be no toggle.
        self.told(True, ("trap", (TURNING,), ((1, 1), (2, 2))))

    def test_kinds(self):
        question, value, _ = KINDS["rest"]
        for name in ("Rest", "rest ", "", "rests", "table", b"rest", ["rest"], ("rest",), None, 0, True, {"rest": 1},
                     {"rest"}, []):
            self.told(False, (name, question, value))

    def test_questions_of_nets(self):
        for name in "rest", "toggle", "trap", "fewest":
            question, value, _ = KINDS[name]
            for other in (list(question), (), question * 2, question + (4,), question[0], (BOTH,) + question[1:],
                          (PRICED,) + question[1:],
                          (list(question[0]),) + question[1:], ((list(question[0][0]), question[0][1]),) + question[1:],
                          (question,), None):
                self.told(False, (name, other, value))
            for odd in ODD_VALUES:
                self.told(False, (name, odd, value))
                self.told(False, (name, (odd,) + question[1:], value))

    def test_rests_in_questions(self):
        lot_paper = fewest_paper(MEND, (0, 0, 0))
        self.told(True, ("fewest", (MEND, (0, 0, 0)), lot_paper))
        for rest in ((0, 0), (1, 0, 0), (0, 1, 2), [1, 1, 1], (1, 1, True), (3, 3, 3), (1, 1, 1, 1), None, 1, ((1, 1, 1),)):
            self.told(False, ("fewest", (MEND, rest), MEND_PAPER))
        self.told(False, ("fewest", (BOTH, (0, 0)), ((), ())))

    def test_questions_of_tables(self):
        for name in "prices", "swing", "share":
            question, value, _ = KINDS[name]
            for other in (list(question), (), question + (1,), question[0], (CALM,) + question[1:],
                          (list(question[0]),) + question[1:], None):
                self.told(False, (name, other, value))
            for odd in ODD_RATIOS:
                self.told(False, (name, (odd,) + question[1:], value))
        for halvings, is_one in ((0, True), (4, True), (20, True), (21, False), (-1, False), (True, False), (False, False),
                                 (None, False),
                                 ("4", False), (4.0, False), ((4,), False), (10 ** 399, False)):
            self.told(is_one, ("share", (PRICED, halvings), SHARE))

    def test_forms(self):
        question, value, _ = KINDS["trap"]
        for other in (["trap", question, value], ("trap", question), ("trap", question, value, ()),
                      ("trap", value, question), (),
                      (("trap", question, value),), "trap", None, question):
            self.told(False, other)
        for odd in ODD_VALUES:
            self.told(False, odd)
            self.told(False, (odd,) * 3)


class SheetTest(unittest.TestCase):
    def refused(self, at, name, question):
        with self.assertRaises(Refused) as caught:
            sheet(name, question)
        self.assertEqual(caught.exception.at, at)

    def test_each_kind(self):
        for name, (question, _, _) in KINDS.items():
            told = sheet(name, question)
            self.assertEqual(told[:2], (name, question))
            self.assertIs(type(told), tuple)
            self.assertIs(sheet_holds(told), True)
        self.assertEqual(sheet("rest", (CALM,))[2][-1], ((0, 1), (0, 1)))
        self.assertEqual(sheet("toggle", (TURNING,))[2], ((1, 1), (2, 2)))
        self.assertEqual(len(sheet("fewest", (MEND, (1, 1, 1)))[2][0]), 2)
        self.assertEqual(sheet("share", (PRICED, 4))[2][:2], ((45, 64), (27, 32)))

    def test_kinds(self):
        for name in ("Rest", "", "table", ["rest"], ("rest",), None, 0, True, b"rest", {"rest": 1}, []):
            self.refused(0, name, (CALM,))
            # The kind is looked at first.
            self.refused(0, name, None)
        for odd in ODD_VALUES:
            self.refused(0, odd, odd)

    def test_questions(self):
        for name, (question, _, _) in KINDS.items():
            for other in (list(question), (), question + (1,), question[0], (None,) + question[1:], None, "net",
                          (question,)):
                self.refused(1, name, other)
        for name in "rest", "toggle", "trap":
            self.refused(1, name, (BOTH,))
            self.refused(1, name, (PRICED,))
        for rest in ((0, 1, 2), (3, 3, 3), [1, 1, 1], None, (1, 1)):
            self.refused(1, "fewest", (MEND, rest))
        for halvings in (21, -1, True, None, "1"):
            self.refused(1, "share", (PRICED, halvings))
        for name in "prices", "swing", "share":
            self.refused(1, name, (CALM,) + (4,) * (name == "share"))

    def test_there_is_none(self):
        self.refused(2, "rest", (TURNING,))
        self.refused(2, "toggle", (CALM,))
        self.refused(2, "prices", (SWINGING,))
        self.refused(2, "swing", (PRICED,))

    def test_halvings(self):
        for halvings in 0, 1, 20:
            told = sheet("share", (PRICED, halvings))
            self.assertEqual(told[2][:2], share_between(PRICED, halvings)[:2])
            self.assertIs(sheet_holds(told), True)

    def test_drawn_nets(self):
        rng = random.Random(771)
        for _ in range(60):
            net = one_way(rng, small_net(rng, top=2))
            for name in "rest", "toggle", "trap":
                if (name, rests_always(net)) not in (("rest", False), ("toggle", True)):
                    told = sheet(name, (net,))
                    self.assertIs(sheet_holds(told), True)
                    self.assertIs(sheet_holds((name, (CALM,), told[2])), net == CALM)
            for rest in rests(net, 100)[:2]:
                self.assertIs(sheet_holds(sheet("fewest", (net, rest))), True)
            self.assertEqual(sheet("trap", (net,))[2], last_ends(net))


class WrongSheetsTest(unittest.TestCase):
    def test_by_hand(self):
        right = [(name, question, value) for name, (question, value, _) in KINDS.items()]
        wrong = [(name, question, others[0]) for name, (question, _, others) in KINDS.items()]
        for values, at in (([], ()), ((), ()), (right, ()), (tuple(right), ()), (wrong, tuple(range(7))),
                           (right[:2] + wrong[:1] + right[2:], (2,)),
                           ([None, right[0], right, list(right[1])], (0, 2, 3)), ((wrong[0], right[0], wrong[1]), (0, 2))):
            told = wrong_sheets(values)
            self.assertEqual((told, type(told)), (at, tuple))

    def test_no_sequence(self):
        for value in (None, "", "rest", 0, True, {}, {1: 2}, set(), b"", range(0), iter(()), object(), frozenset()):
            with self.assertRaises(InvalidQuestion) as caught:
                wrong_sheets(value)
            self.assertEqual(caught.exception.at, 0)
        for odd in ODD_VALUES:
            if isinstance(odd, (list, tuple)):
                self.assertEqual(wrong_sheets(odd), tuple(range(len(odd))))


class BothSidesTest(unittest.TestCase):
    def kinds_told(self, names, question):
        told = []
        for name in names:
            try:
                told.append(sheet(name, question)[0])
            except Refused as error:
                self.assertEqual(error.at, 2)
        return told

    def test_rest_or_toggle(self):
        rng = random.Random(791)
        seen = {"rest": 0, "toggle": 0}
        for _ in range(120):
            net = one_way(rng, small_net(rng))
            name, = self.kinds_told(("rest", "toggle"), (net,))
            seen[name] += 1
            value = sheet(name, (net,))[2]
            if name == "rest":
                d, e, loss = rng.choice(((2, 1, 0), (2, 3, 1), (4, 2, 2)))
                beat = settled_with(net, d, e, loss)
                states = stopped_shown(net, d + loss, drawn_stopped_run(rng, net, d + loss, e, beat + 5))
                self.assertEqual(set(states[beat:]), {value[-1][0]})
                self.assertEqual(the_rest(net), value[-1][0])
            else:
                self.assertIs(is_toggle(net, value), True)
                self.assertEqual(shown(net, 2, toggle_run(net, 2, value, 6)), value * 3)
        self.assertGreater(min(seen.values()), 25)

    def test_prices_or_swing(self):
        rng = random.Random(792)
        seen = {"prices": 0, "swing": 0}
        for _ in range(120):
            net = drawn_table_net(rng, most=rng.choice((1, 4)))
            name, = self.kinds_told(("prices", "swing"), (net,))
            seen[name] += 1
            self.assertEqual(priced(net)[0], name)
            self.assertIs(sheet_holds(sheet(name, (net,))), True)
        self.assertGreater(min(seen.values()), 25)


if __name__ == "__main__":
    unittest.main()

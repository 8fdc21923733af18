"""[64]: rows of changes, and diaries."""

import random
import unittest

from newsbehind.errors import InvalidQuestion
from newsbehind.lives import diary, lived
from newsbehind.living import begun, known, rests_in
from newsbehind.livingchanges import changed
from newsbehind.nets import net_of
from sampling import ODD_VALUES
from test_livingchanges import LIFE, NET, drawn_change, drawn_life

WRONG = ("wait", 10001)
ROW = (("wait", 5), ("seen", 0, 0, 1), ("rule", 1, ("is", 4)), ("house", 3, ("hear", 2)), ("wait", 10000))


def drawn_row(rng, life, many):
    changes = []
    for _ in range(many):
        changes.append(drawn_change(rng, life))
        life = changed(life, changes[-1])
    return changes


class LivedTest(unittest.TestCase):
    def refused(self, at, changes, life=LIFE):
        with self.assertRaises(InvalidQuestion) as caught:
            lived(life, changes)
        self.assertEqual(caught.exception.at, at)

    def test_no_changes(self):
        for changes in (), []:
            self.assertEqual(lived(LIFE, changes), LIFE)

    def test_one_after_another(self):
        life = LIFE
        for change in ROW:
            life = changed(life, change)
        self.assertEqual(lived(LIFE, ROW), life)
        self.assertEqual(lived(LIFE, list(ROW)), life)
        self.assertEqual(life[2:], (((0, 0, 0), (2, 4, 3)), 10000))

    def test_a_wrong_one(self):
        for at in range(len(ROW) + 1):
            changes = ROW[:at] + (WRONG,) + ROW[at:]
            self.refused(at, changes)
            self.refused(at, list(changes))
            # The first wrong one counts.
            self.refused(at, changes + (None,))
        for value in ODD_VALUES:
            self.refused(0, (value,))
            self.refused(2, ROW[:2] + (value,) + ROW[2:])
        self.refused(0, [list(ROW[0])])

    def test_what_can_be_made_hangs_on_what_was_made_ahead(self):
        self.refused(1, (("wait", 5), ("seen", 0, 5, 8)))
        self.assertEqual(lived(begun(NET, 2), (("seen", 0, 5, 8), ("wait", 5)))[3], 5)
        self.refused(0, (("rule", 2, ("is", 0)), ("house", 3, ("is", 0))))
        self.assertEqual(lived(LIFE, (("house", 3, ("is", 0)), ("rule", 2, ("is", 1))))[0][1][2], ("is", 1))
        life = begun(net_of([1] * 18, [("is", 0)] * 18), 2)
        self.refused(2, [("house", 1, ("is", 1))] * 3, life)

    def test_two_waits_and_one_of_their_sum(self):
        rng = random.Random(641)
        for one, other in ((0, 0), (0, 10000), (10000, 0), (1, 2), (4999, 5001), (3333, 4444)):
            both, sum_of_both = lived(LIFE, (("wait", one), ("wait", other))), lived(LIFE, (("wait", one + other),))
            self.assertEqual(both, sum_of_both)
            row = drawn_row(rng, both, 5)
            self.assertEqual(diary(both, row), diary(sum_of_both, row))
        self.refused(0, (("wait", 5000 + 5001),))
        self.assertEqual(lived(LIFE, (("wait", 5000), ("wait", 5001)))[3], 10006)

    def test_led_on_elsewhere(self):
        rng = random.Random(642)
        for _ in range(30):
            life = drawn_life(rng)
            row = drawn_row(rng, life, 6)
            at = rng.randint(0, 6)
            kept = eval(repr(lived(life, row[:at])))
            self.assertEqual(lived(kept, row[at:]), lived(life, row))


class DiaryTest(unittest.TestCase):
    def test_by_hand(self):
        changes = (("wait", 5), ("rule", 0, ("most", (("is", 3), ("hear", 1)))), ("rule", 1, ("is", 4)), ("wait", 2),
                   ("seen", 0, 4, 9))
        self.assertEqual(diary(begun(NET, 2), changes), (
            (((0, 0), (8, 8)), 16), (((0, 0), (4, 4)), 11), (((0, 0), (4, 4)), None), (((0, 0), (4, 4)), 4),
            (((3, 4), (4, 4)), 2),
            (((4, 4), (4, 4)), 0)))
        self.assertEqual(diary(begun(NET, 2), list(changes)), diary(begun(NET, 2), changes))

    def test_no_changes(self):
        for changes in (), []:
            self.assertEqual(diary(LIFE, changes), ((((0, 0), (4, 4)), 11),))

    def test_entry_by_entry(self):
        rng = random.Random(643)
        for _ in range(80):
            life = drawn_life(rng)
            row = drawn_row(rng, life, rng.choice((1, 3, 8)))
            lives = [lived(life, row[:at]) for at in range(len(row) + 1)]
            self.assertEqual(diary(life, row), tuple((known(one), rests_in(one)) for one in lives))

    def test_many_waits(self):
        told = diary(begun(NET, 2), [("wait", 1)] * 20)
        self.assertEqual([beats for _, beats in told], [max(16 - age, 0) for age in range(21)])


if __name__ == "__main__":
    unittest.main()

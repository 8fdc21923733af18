"""[33]: table nets."""

import random
import unittest
from fractions import Fraction

from newsbehind.errors import InvalidNet
from newsbehind.tablenets import is_table_net, table_branches, table_net_of, table_wanted
from sampling import ODD_VALUES
from tables import ODD_RATIOS, drawn_ratio, drawn_table_net, great_table_net, pair_of, value_of

NET = ((((0, 1), (1, 2)), ((-1, 1), (1, 4))), ((1, 1), (0, 1)))
ONE = (((1, 2),),), ((3, 1),)


class IsTableNetTest(unittest.TestCase):
    def told(self, is_one, value):
        self.assertIs(is_table_net(value), is_one, value)

    def test_nets(self):
        self.told(True, NET)
        self.told(True, ONE)
        self.told(True, great_table_net(random.Random(1)))

    def test_how_many_houses(self):
        for many, is_one in ((0, False), (1, True), (2, True), (19, True), (20, True), (21, False), (40, False)):
            row = ((0, 1),) * many
            self.told(is_one, ((row,) * many, row))
            self.told(False, ((row,) * many, row + ((0, 1),)))
            self.told(False, ((row,) * (many + 1), row))
            self.told(False, ((row + ((0, 1),),) * many, row))

    def test_rows_too_long_and_too_short(self):
        for table in ((((0, 1), (1, 2)), ((-1, 1),)), (((0, 1), (1, 2)), ((-1, 1), (1, 4), (0, 1))), NET[0][:1], (), ((), ())):
            self.told(False, (table, NET[1]))
        for adds in (NET[1][:1], NET[1] + ((0, 1),), ()):
            self.told(False, (NET[0], adds))

    def test_how_great_the_integers_are(self):
        for ratio, is_one in (((1000, 1), True), ((-1000, 1), True), ((1001, 1), False), ((-1001, 1), False),
                              ((1, 1000), True), ((1, 1001), False), ((999, 1000), True), ((1000, 1001), False),
                              ((1001, 1000), False), ((-1000, 999), True), ((10 ** 399, 1), False), ((1, 10 ** 399), False)):
            self.told(is_one, (((ratio,),), ((0, 1),)))
            self.told(is_one, ((((0, 1),),), (ratio,)))

    def test_no_fractions(self):
        for ratio in ODD_RATIOS:
            self.told(False, (((ratio,),), ((0, 1),)))
            self.told(False, ((((0, 1),),), (ratio,)))

    def test_lists(self):
        self.told(False, list(ONE))
        self.told(False, ([ONE[0][0]], ONE[1]))
        self.told(False, (([(1, 2)],), ONE[1]))
        self.told(False, ((([1, 2],),), ONE[1]))
        self.told(False, (ONE[0], list(ONE[1])))
        self.told(False, (ONE[0], ([3, 1],)))

    def test_any_value(self):
        for value in ODD_VALUES:
            self.told(False, value)
            self.told(False, (value, ONE[1]))
            self.told(False, (ONE[0], value))
            self.told(False, ((value,), ONE[1]))
        self.told(False, ONE + ((),))
        self.told(False, ONE[:1])


class TableNetOfTest(unittest.TestCase):
    def wrong(self, at, table, adds):
        with self.assertRaises(InvalidNet) as caught:
            table_net_of(table, adds)
        self.assertEqual(caught.exception.at, at)

    def test_sequences(self):
        for table in ([[0, (1, 2)], [-1, (1, 4)]], ((0, (1, 2)), (-1, (1, 4))), [(0, (1, 2)), [-1, (1, 4)]],
                      ((0, (1, 2)), [(-1, 1), (2, 8)]), [[(0, -9), (-3, -6)], [(7, -7), (250, 1000)]]):
            for adds in [1, 0], (1, 0), [(1, 1), (0, 1)], ((5, 5), 0), [(-2, -2), (0, 9)]:
                self.assertEqual(table_net_of(table, adds), NET)
        self.assertEqual(table_net_of(*NET), NET)
        self.assertIs(is_table_net(table_net_of([[0]], [0])), True)

    def test_limits_hold_in_lowest_terms(self):
        for entry, ratio in (((2000, 4000), (1, 2)), ((10 ** 399, 10 ** 399), (1, 1)), ((0, 10 ** 300), (0, 1)),
                             ((-5000, 5), (-1000, 1)), ((3003, -3), None), (1000, (1000, 1)), (-1000, (-1000, 1)), (1001, None),
                             (-1001, None), ((1, 1001), None), ((2, 2000), (1, 1000)), ((2, 2002), None), ((1001, 1001), (1, 1)),
                             ((1000, 1001), None), ((-999, -1000), (999, 1000))):
            if ratio is None:
                self.wrong(0, [[entry]], [0])
                self.wrong(1, [[0]], [entry])
            else:
                self.assertEqual(table_net_of([[entry]], [entry]), (((ratio,),), (ratio,)))

    def test_how_many_houses(self):
        for many in (1, 2, 20):
            self.assertEqual(table_net_of([[0] * many] * many, [1] * many), ((((0, 1),) * many,) * many, ((1, 1),) * many))
            self.wrong(1, [[0] * many] * many, [1] * (many + 1))
            self.wrong(1, [[0] * many] * many, [1] * (many - 1))
        for many in (0, 21):
            self.wrong(0, [[0] * many] * many, [1] * many)

    def test_rows_too_long_and_too_short(self):
        for table in ([[0, 0]], [[0, 0], [0]], [[0], [0, 0]], [[0, 0], [0, 0, 0]], [[0, 0], []], [], [[0, 0]] * 3, [[]]):
            self.wrong(0, table, [0, 0])
        self.wrong(1, [[0]], [0, 0])

    def test_entries_that_are_none(self):
        for entry in (True, False, None, "1", 1.0, (1, 0), (0, 0), (1,), (1, 2, 3), [1, 2], (True, 2), (1, True), (1.0, 2),
                      ((1, 2), 3), {}, Fraction(1, 2), ("1", 2)):
            self.wrong(0, [[entry]], [0])
            self.wrong(0, [[0, 0], [0, entry]], [0, 0])
            self.wrong(1, [[0]], [entry])
            self.wrong(1, [[0, 0], [0, 0]], [0, entry])

    def test_no_sequences(self):
        for value in (None, True, 0, 1, "0", b"0", {}, {0: [0]}, set(), range(1), object(), 1.5):
            self.wrong(0, value, [0])
            self.wrong(0, [value], [0])
            self.wrong(1, [[0]], value)

    def test_which_number_if_both_are_wrong(self):
        self.wrong(0, [[None]], [None])
        self.wrong(0, [], [])
        self.wrong(0, None, None)
        self.wrong(0, [[0] * 21] * 21, None)
        self.wrong(0, [[0, 0]], [0])

    def test_nothing_is_changed_or_kept(self):
        table, adds = [[0, 1], [(2, 4), 0]], [1, (1, 2)]
        net = table_net_of(table, adds)
        table[0][0] = 5
        adds.append(3)
        self.assertEqual(net, ((((0, 1), (1, 1)), ((1, 2), (0, 1))), ((1, 1), (1, 2))))


class WantedTest(unittest.TestCase):
    def test_branches(self):
        self.assertEqual((table_branches(NET, 0), table_branches(NET, 1)), ((1,), (0, 1)))
        self.assertEqual(table_branches(table_net_of([[0]], [5]), 0), ())
        self.assertEqual(table_branches(table_net_of([[-1]], [0]), 0), (0,))

    def test_by_hand(self):
        self.assertEqual(table_wanted(NET, 1, ((2, 1), (1, 1))), (-7, 4))
        self.assertEqual(table_wanted(NET, 0, ((2, 3),)), (4, 3))
        self.assertEqual(table_wanted(table_net_of([[0]], [(1, -3)]), 0, ()), (-1, 3))
        self.assertEqual(table_wanted(table_net_of([[(1, 2)]], [(1, 2)]), 0, ((-1, 1),)), (0, 1))

    def test_as_pythons_own(self):
        rng = random.Random(333)
        for _ in range(200):
            net = drawn_table_net(rng, most=1000, dens=(1, 7, 11))
            for house, row in enumerate(net[0]):
                heard = tuple(drawn_ratio(rng, 10 ** 6) for _ in table_branches(net, house))
                self.assertEqual(table_branches(net, house), tuple(at for at, entry in enumerate(row) if entry != (0, 1)))
                total = value_of(net[1][house])
                for other, brought in zip(table_branches(net, house), heard):
                    total += value_of(row[other]) * value_of(brought)
                self.assertEqual(table_wanted(net, house, heard), pair_of(total))


if __name__ == "__main__":
    unittest.main()

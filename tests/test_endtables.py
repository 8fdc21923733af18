"""[54] and [56]: tables of ends, and parts that can stand for one another."""

import itertools
import random
import unittest

from newsbehind.ends import last_ends
from newsbehind.endtables import ends_table, is_within, unlike_row
from newsbehind.errors import InvalidQuestion, Refused
from newsbehind.nets import net_of, with_rule
from newsbehind.openparts import given_net
from newsbehind.together import put_together
from sampling import drawn_rule, one_way, small_net
from test_openparts import slow_ends_given
from test_traps import within

NET = net_of([3, 3, 3], [("is", 0), ("least", (("hear", 0), ("from", 3, ("hear", 2)))), ("hear", 1)])
HALF = net_of([3, 3], [("is", 0), ("part", 2, ("hear", 0))])
BOTH = ("row", (0, 2, 1), ("hear", 0))


def pairs_to(top):
    return [(low, high) for low in range(top + 1) for high in range(low, top + 1)]


def slow_table(net, inputs, outputs):
    rows = []
    for pairs in itertools.product(*[pairs_to(net[0][house]) for house in inputs]):
        ends = (tuple(low for low, _ in pairs), tuple(high for _, high in pairs))
        lows, highs = slow_ends_given(net, inputs, ends)
        rows.append((ends, (tuple(lows[house] for house in outputs), tuple(highs[house] for house in outputs))))
    return tuple(sorted(rows))


def some_houses(rng, net, most):
    return tuple(sorted(rng.sample(range(len(net[0])), rng.randint(0, min(most, len(net[0]))))))


class EndsTableTest(unittest.TestCase):
    def refused(self, error, at, net, inputs, outputs=(0,)):
        with self.assertRaises(error) as caught:
            ends_table(net, inputs, outputs)
        self.assertEqual(caught.exception.at, at)

    def test_by_hand(self):
        table = ends_table(NET, (0,), (2,))
        self.assertEqual(len(table), 10)
        self.assertEqual(table[0], (((0,), (0,)), ((0,), (0,))))
        self.assertEqual(dict(table)[(1,), (3,)], ((0,), (3,)))
        self.assertEqual(dict(table)[(2,), (2,)], ((1,), (2,)))
        self.assertEqual(ends_table(HALF, (0,), (1,)), tuple(
            (((low,), (high,)), ((low // 2,), (high // 2,))) for low, high in pairs_to(3)))

    def test_no_inputs(self):
        self.assertEqual(ends_table(NET, (), (0, 2)), ((((), ()), ((0, 0), (0, 0))),))
        rng = random.Random(541)
        for _ in range(20):
            net = one_way(rng, small_net(rng))
            self.assertEqual(ends_table(net, (), (0, 1, 2)), ((((), ()), last_ends(net)),))

    def test_outputs(self):
        self.assertEqual(ends_table(HALF, (0,), ()), tuple((((low,), (high,)), ((), ())) for low, high in pairs_to(3)))
        for ends, told in ends_table(HALF, (0,), (0, 1)):
            self.assertEqual((told[0][0], told[1][0]), (ends[0][0], ends[1][0]))
        for ends, told in ends_table(NET, (0, 2), (0, 2)):
            self.assertEqual(told, ends)

    def test_drawn_parts(self):
        rng = random.Random(542)
        for _ in range(60):
            net = one_way(rng, small_net(rng, houses=rng.choice((1, 2, 3, 4)), top=2))
            inputs, outputs = some_houses(rng, net, 2), some_houses(rng, net, 4)
            table = ends_table(net, inputs, outputs)
            self.assertEqual(table, slow_table(net, inputs, outputs))
            self.assertEqual(list(table), sorted(table))

    def test_how_many(self):
        net = net_of([26, 27, 3, 2, 10, 8, 1, 1], [("is", 0)] * 8)
        for inputs, many in (((0,), 378), ((3, 4), 396), ((2, 6, 7), 90), ((2,), 10)):
            self.assertEqual(len(ends_table(net, inputs, inputs)), many)
        for inputs, many in (((1,), 406), ((5, 6, 7), 405), ((0, 1), 378 * 406),
                             (tuple(range(8)), 378 * 406 * 10 * 396 * 405)):
            self.refused(Refused, many, net, inputs)
        self.refused(Refused, 501501, net_of([1000], [("is", 0)]), (0,), ())
        self.refused(Refused, 501501 ** 20, net_of([1000] * 20, [("is", 0)] * 20), tuple(range(20)))

    def test_branches_that_go_both_ways(self):
        net = net_of([2, 40, 2], [("is", 0), BOTH, ("hear", 1)])
        self.refused(InvalidQuestion, 1, net, (0,))
        self.refused(InvalidQuestion, 1, net, ())
        # The other error comes first, though there are far too many ends, too.
        self.refused(InvalidQuestion, 1, net_of([40, 40, 2], [("is", 0), BOTH, ("hear", 1)]), (0,))
        self.refused(Refused, 861, net, (1,))
        told = ends_table(net_of([2, 4, 2], [("is", 0), BOTH, ("hear", 1)]), (1,), (1, 2))
        self.assertEqual(told, tuple((((low,), (high,)), ((low, min(low, 2)), (high, min(high, 2)))) for low,
                                     high in pairs_to(4)))

    def test_rows_within_one_another(self):
        rng = random.Random(543)
        for _ in range(25):
            net = one_way(rng, small_net(rng))
            table = ends_table(net, (0, 2), (0, 1))[::3]
            for (ends, told), (others, other_told) in itertools.product(table, repeat=2):
                if is_within(ends, others):
                    self.assertIs(is_within(told, other_told), True)


class IsWithinTest(unittest.TestCase):
    def test_by_hand(self):
        for one, other, is_one in (
            (((), ()), ((), ()), True), (((1,), (2,)), ((1,), (2,)), True), (((1,), (2,)), ((0,), (3,)), True),
            (((0,), (2,)), ((1,), (2,)), False), (((1,), (3,)), ((1,), (2,)), False),
            (((0, 1), (1, 1)), ((0, 0), (1, 1)), True),
            (((0, 0), (1, 1)), ((0, 1), (1, 1)), False), (((0, 1), (1, 2)), ((0, 1), (1, 1)), False),
        ):
            self.assertIs(is_within(one, other), is_one)

    def test_all_of_one_house(self):
        every = [((low,), (high,)) for low, high in pairs_to(3)]
        for one, other in itertools.product(every, repeat=2):
            self.assertIs(is_within(one, other), within(one, other))


class UnlikeRowTest(unittest.TestCase):
    def test_by_hand(self):
        table = ends_table(HALF, (0,), (1,))
        self.assertIs(unlike_row(table, table), None)
        same = net_of([3, 3, 9], [("hear", 2), ("bar", 2, 0, 1, ("hear", 0)), ("from", 9, ("hear", 2))])
        self.assertIs(unlike_row(table, ends_table(same, (0,), (1,))), None)
        plain = ends_table(with_rule(HALF, 1, ("hear", 0)), (0,), (1,))
        self.assertEqual(unlike_row(table, plain), ((0,), (1,)))
        self.assertEqual(unlike_row(plain, table), ((0,), (1,)))
        self.assertEqual(unlike_row(table, ends_table(with_rule(HALF, 1, ("is", 1)), (0,), (1,))), ((0,), (0,)))
        later = ends_table(with_rule(HALF, 1, ("row", (0, 0, 1, 2), ("hear", 0))), (0,), (1,))
        self.assertEqual(unlike_row(table, later), ((0,), (3,)))
        last = tuple(row if row[0] != ((3,), (3,)) else (row[0], ((2,), (2,))) for row in table)
        self.assertEqual(unlike_row(table, last), ((3,), (3,)))

    def test_the_first_of_drawn_ones(self):
        rng = random.Random(561)
        for _ in range(40):
            tables = []
            for _ in range(2):
                net = one_way(rng, small_net(rng, houses=2, top=2))
                tables.append(ends_table(net_of([2, 2], net[1]), (0,), (1,)))
            unlike = [ends for ends in dict(tables[0]) if dict(tables[0])[ends] != dict(tables[1])[ends]]
            self.assertEqual(unlike_row(*tables), min(unlike, default=None))


class ExchangedTest(unittest.TestCase):
    def test_parts_with_equal_tables(self):
        rng = random.Random(562)
        found = {}
        for _ in range(150):
            net = one_way(rng, small_net(rng, houses=rng.choice((2, 3)), top=2))
            net = net_of((2, 2) + net[0][2:], net[1])
            found.setdefault(ends_table(net, (0,), (1,)), []).append(net)
        alike = [nets for nets in found.values() if len(nets) > 1]
        self.assertGreater(len(alike), 4)
        for nets in alike:
            for _ in range(20):
                around = one_way(rng, small_net(rng, houses=2, top=2))
                one, other = rng.sample(nets, 2)
                ties = ((0, 2), (2, 1)) if rng.random() < 0.7 else ((2, 1),)
                # The net around stands first, so that its houses and the part's input and output keep their numbers.
                ends = last_ends(put_together(around, one, ties))
                other_ends = last_ends(put_together(around, other, ties))
                places = (0, 1, 3) if len(ties) == 1 else (0, 1, 2, 3)
                for house in places:
                    self.assertEqual((ends[0][house], ends[1][house]), (other_ends[0][house], other_ends[1][house]))

    def test_parts_with_unlike_tables(self):
        rng = random.Random(563)
        unlike = 0
        for _ in range(60):
            one, other = [one_way(rng, small_net(rng, houses=2, top=2)) for _ in range(2)]
            one, other = net_of([2, 2], one[1]), net_of([2, 2], other[1])
            ends = unlike_row(ends_table(one, (0,), (1,)), ends_table(other, (0,), (1,)))
            if ends is not None:
                unlike += 1
                told, other_told = [last_ends(given_net(net, (0,), ends)) for net in (one, other)]
                self.assertNotEqual((told[0][1], told[1][1]), (other_told[0][1], other_told[1][1]))
        self.assertGreater(unlike, 20)

    def test_rules_of_inputs_are_not_asked(self):
        rng = random.Random(564)
        for _ in range(20):
            rule = drawn_rule(rng, 2, many=5)
            self.assertEqual(ends_table(with_rule(HALF, 0, rule), (0,), (1,)), ends_table(HALF, (0,), (1,)))


if __name__ == "__main__":
    unittest.main()

"""[33]: fractions."""

import random
import unittest
from fractions import Fraction

from newsbehind.ratios import fraction, greatest_ratio, is_fraction, over_common, ratio_less, ratio_product, ratio_sum
from tables import ODD_RATIOS, pair_of, value_of


class FractionTest(unittest.TestCase):
    def test_lowest_terms(self):
        for a, d, told in ((1, 2, (1, 2)), (2, 4, (1, 2)), (6, 3, (2, 1)), (7, 7, (1, 1)), (12, 18, (2, 3)), (5, 1, (5, 1))):
            self.assertEqual(fraction(a, d), told)

    def test_signs(self):
        for a, d, told in ((-1, 2, (-1, 2)), (1, -2, (-1, 2)), (-1, -2, (1, 2)), (-6, 4, (-3, 2)), (6, -4, (-3, 2)),
                           (-6, -4, (3, 2)), (-5, 5, (-1, 1)), (5, -1, (-5, 1))):
            self.assertEqual(fraction(a, d), told)

    def test_zero(self):
        for d in (1, 2, -1, -7, 1000):
            self.assertEqual(fraction(0, d), (0, 1))

    def test_as_pythons_own(self):
        rng = random.Random(331)
        for most in (10, 1000, 10 ** 400 - 1):
            for _ in range(300):
                a, d = rng.randint(-most, most), rng.choice((-1, 1)) * rng.randint(1, most)
                self.assertEqual(fraction(a, d), pair_of(Fraction(a, d)))
                self.assertIs(is_fraction(fraction(a, d)), True)
                self.assertIs(is_fraction((a, d)), pair_of(Fraction(a, d)) == (a, d))


class IsFractionTest(unittest.TestCase):
    def test_fractions(self):
        for value in ((0, 1), (1, 1), (-1, 1), (1, 2), (-3, 2), (1001, 1), (1, 1001), (10 ** 399, 3)):
            self.assertIs(is_fraction(value), True, value)

    def test_other_values(self):
        for value in ODD_RATIOS + ([0, 1], [0], (0, -1), (0, 3), (3, 3), (10 ** 399, 10), (1, 2, 3), ((1, 2), (3, 4))):
            self.assertIs(is_fraction(value), False, value)

    def test_all_small_pairs(self):
        for a in range(-12, 13):
            for d in range(-12, 13):
                shared = [k for k in range(2, 13) if a % k == 0 and d % k == 0]
                self.assertIs(is_fraction((a, d)), d >= 1 and not shared)


class ReckoningTest(unittest.TestCase):
    def test_as_pythons_own(self):
        rng = random.Random(332)
        drawn = [pair_of(Fraction(rng.randint(-20, 20), rng.randint(1, 12))) for _ in range(40)]
        for one in drawn:
            for other in drawn:
                self.assertEqual(value_of(ratio_sum(one, other)), value_of(one) + value_of(other))
                self.assertEqual(value_of(ratio_product(one, other)), value_of(one) * value_of(other))
                self.assertIs(ratio_less(one, other), value_of(one) < value_of(other))
        self.assertEqual(value_of(greatest_ratio(drawn)), max(map(value_of, drawn)))
        numbers, common = over_common(drawn)
        self.assertEqual([pair_of(Fraction(number, common)) for number in numbers], drawn)


if __name__ == "__main__":
    unittest.main()

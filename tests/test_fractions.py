"""Fractions: lowest terms, sums, products, which is less."""

import unittest
from fractions import Fraction
from math import gcd

from meanchoice.fractions import is_less, lowest, plus, times

PAIRS = [
    (0, 1), (1, 1), (-1, 1), (2, 1), (-7, 1), (1, 2), (-1, 2), (1, 3), (2, 3), (-2, 3), (3, 2), (-3, 2), (5, 6),
    (7, 12), (10 ** 59 + 1, 10 ** 59), (-(10 ** 59 + 1), 10 ** 59),
    (1, 10 ** 60 - 1), (10 ** 60 - 1, 1), (1 - 10 ** 60, 7),
]


class FractionTest(unittest.TestCase):
    def check_fraction(self, told, wanted):
        self.assertIs(type(told), tuple)
        self.assertEqual(told, wanted)
        self.assertEqual([type(number) for number in told], [int, int])
        self.assertGreaterEqual(told[1], 1)
        self.assertEqual(gcd(told[0], told[1]), 1)


class Lowest(FractionTest):
    def test_without_a_common_divisor(self):
        for a, b in [(1, 1), (1, 2), (2, 1), (3, 4), (25, 9), (1, 99), (99, 100)]:
            self.check_fraction(lowest(a, b), (a, b))

    def test_with_a_common_divisor(self):
        self.check_fraction(lowest(2, 4), (1, 2))
        self.check_fraction(lowest(4, 2), (2, 1))
        self.check_fraction(lowest(6, 6), (1, 1))
        self.check_fraction(lowest(12, 18), (2, 3))
        self.check_fraction(lowest(18, 12), (3, 2))
        self.check_fraction(lowest(49, 21), (7, 3))
        self.check_fraction(lowest(1024, 4096), (1, 4))

    def test_of_nought(self):
        for b in (1, 2, 7, 99, 10 ** 59):
            self.check_fraction(lowest(0, b), (0, 1))

    def test_below_nought(self):
        self.check_fraction(lowest(-1, 1), (-1, 1))
        self.check_fraction(lowest(-1, 2), (-1, 2))
        self.check_fraction(lowest(-2, 4), (-1, 2))
        self.check_fraction(lowest(-12, 18), (-2, 3))
        self.check_fraction(lowest(-18, 12), (-3, 2))
        self.check_fraction(lowest(-6, 3), (-2, 1))

    def test_of_sixty_figures(self):
        big = 10 ** 59
        self.check_fraction(lowest(big, big), (1, 1))
        self.check_fraction(lowest(3 * big, 6 * big), (1, 2))
        self.check_fraction(lowest(-6 * big, 4 * big), (-3, 2))
        self.check_fraction(lowest(big + 1, big), (big + 1, big))
        self.check_fraction(lowest(10 ** 60 - 1, 9), ((10 ** 60 - 1) // 9, 1))
        self.check_fraction(lowest(9, 10 ** 60 - 1), (1, (10 ** 60 - 1) // 9))

    def test_all_small_ones(self):
        for a in range(-30, 31):
            for b in range(1, 31):
                wanted = Fraction(a, b)
                self.check_fraction(lowest(a, b), (wanted.numerator, wanted.denominator))

    def test_each_is_a_new_one(self):
        self.assertIsNot(lowest(0, 5), lowest(0, 5))
        self.assertIsNot(lowest(1, 2), lowest(1, 2))


class PlusAndTimes(FractionTest):
    def test_plus(self):
        self.check_fraction(plus((1, 2), (1, 3)), (5, 6))
        self.check_fraction(plus((1, 6), (1, 3)), (1, 2))
        self.check_fraction(plus((1, 2), (1, 2)), (1, 1))
        self.check_fraction(plus((3, 4), (3, 4)), (3, 2))
        self.check_fraction(plus((1, 2), (0, 1)), (1, 2))
        self.check_fraction(plus((0, 1), (0, 1)), (0, 1))
        self.check_fraction(plus((1, 2), (-1, 2)), (0, 1))
        self.check_fraction(plus((1, 3), (-1, 2)), (-1, 6))
        self.check_fraction(plus((-1, 3), (-1, 6)), (-1, 2))

    def test_times(self):
        self.check_fraction(times((1, 2), (1, 3)), (1, 6))
        self.check_fraction(times((2, 3), (3, 4)), (1, 2))
        self.check_fraction(times((2, 3), (3, 2)), (1, 1))
        self.check_fraction(times((3, 4), (3, 4)), (9, 16))
        self.check_fraction(times((5, 7), (1, 1)), (5, 7))
        self.check_fraction(times((5, 7), (0, 1)), (0, 1))
        self.check_fraction(times((0, 1), (0, 1)), (0, 1))
        self.check_fraction(times((-1, 2), (2, 3)), (-1, 3))
        self.check_fraction(times((-1, 2), (-2, 3)), (1, 3))

    def test_all_pairs(self):
        for one in PAIRS:
            for other in PAIRS:
                total = Fraction(*one) + Fraction(*other)
                product = Fraction(*one) * Fraction(*other)
                self.check_fraction(plus(one, other), (total.numerator, total.denominator))
                self.check_fraction(times(one, other), (product.numerator, product.denominator))

    def test_what_is_told_is_a_new_one(self):
        half, nought, unit = (1, 2), (0, 1), (1, 1)
        self.assertIsNot(plus(half, nought), half)
        self.assertIsNot(plus(nought, half), half)
        self.assertIsNot(times(half, unit), half)
        self.assertIsNot(times(unit, half), half)
        self.assertIsNot(times(half, nought), nought)
        self.assertIsNot(plus(half, half), plus(half, half))
        self.assertEqual((half, nought, unit), ((1, 2), (0, 1), (1, 1)))


class IsLess(unittest.TestCase):
    def test_ordinary_ones(self):
        self.assertIs(is_less((1, 3), (1, 2)), True)
        self.assertIs(is_less((1, 2), (1, 3)), False)
        self.assertIs(is_less((2, 3), (3, 4)), True)
        self.assertIs(is_less((3, 2), (4, 3)), False)

    def test_like_ones(self):
        for one in PAIRS:
            self.assertIs(is_less(one, one), False)

    def test_at_nought_and_below(self):
        self.assertIs(is_less((0, 1), (1, 99)), True)
        self.assertIs(is_less((1, 99), (0, 1)), False)
        self.assertIs(is_less((-1, 99), (0, 1)), True)
        self.assertIs(is_less((0, 1), (-1, 99)), False)
        self.assertIs(is_less((-1, 2), (-1, 3)), True)
        self.assertIs(is_less((-1, 3), (-1, 2)), False)
        self.assertIs(is_less((-1, 2), (1, 2)), True)

    def test_all_pairs(self):
        for one in PAIRS:
            for other in PAIRS:
                self.assertIs(is_less(one, other), Fraction(*one) < Fraction(*other))


if __name__ == "__main__":
    unittest.main()

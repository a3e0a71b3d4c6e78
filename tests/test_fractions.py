"""Fractions ([0.3]): counterheld.fractions."""

import math
import unittest
from fractions import Fraction

from counterheld.fractions import common_grid, difference, fraction, is_less, product, sum_of
from tests import plainly
from tests.checks import Case

GREAT = 10 ** 49 + 9
SOME = [
    (0, 1), (1, 1), (-1, 1), (1, 2), (-1, 2), (2, 3), (-7, 4), (5, 6), (1000, 999), (-999, 1000),
    (GREAT, 7), (-7, GREAT), (GREAT, GREAT + 1), (10 ** 50, 3 ** 40),
]


def pair(told):
    return (told.numerator, told.denominator)


class Fractions(Case):
    def test_lowest_terms(self):
        for n in range(-30, 31):
            for d in list(range(-30, 0)) + list(range(1, 31)):
                self.assertEqual(pair(Fraction(n, d)), fraction(n, d))
        self.assert_answer((0, 1), fraction, 0, -9)
        self.assert_answer((-1, 2), fraction, 3, -6)
        self.assert_answer((1, 2), fraction, -3, -6)
        self.assert_answer((GREAT, 3), fraction, -2 * GREAT, -6)
        self.assert_answer((-1, GREAT), fraction, 5, -5 * GREAT)

    def test_reckoning(self):
        for one in SOME:
            for other in SOME:
                a, b = Fraction(*one), Fraction(*other)
                self.assert_answer(pair(a + b), sum_of, one, other)
                self.assert_answer(pair(a - b), difference, one, other)
                self.assert_answer(pair(a * b), product, one, other)
                self.assert_answer(a < b, is_less, one, other)
                self.assert_answer(pair(a + b), sum_of, list(one), list(other))
                self.assert_answer(pair(a - b), difference, list(one), list(other))
                self.assert_answer(pair(a * b), product, list(one), list(other))
                self.assert_answer(a < b, is_less, list(one), list(other))

    def test_grid(self):
        self.assert_answer((3, 4), common_grid, ((3, 4),))
        self.assert_answer((7, 1), common_grid, [[7, 1]])
        self.assert_answer((1, 4), common_grid, ((1, 2), (3, 4)))
        self.assert_answer((1, 12), common_grid, [(1, 4), (1, 3)])
        self.assert_answer((1, 6), common_grid, [(1, 2), (1, 3), (5, 6)])
        self.assert_answer((3, 8), common_grid, ((3, 2), (9, 8), (3, 1)))
        self.assert_answer((2, 1), common_grid, ((4, 1), (6, 1), (10, 1)))
        self.assert_answer((2, 15), common_grid, ((2, 3), (4, 5)))
        self.assert_answer((GREAT, 6), common_grid, ((GREAT, 2), (GREAT, 3)))

    def test_grid_of_many(self):
        for begin in range(1, 60):
            told = [pair(Fraction(begin * k % 97 + 1, k)) for k in range(begin, begin + 12)]
            grid = common_grid(told)
            self.assertEqual(plainly.grid(told), grid)
            multiples = [Fraction(*one) / Fraction(*grid) for one in told]
            self.assertEqual({1}, {one.denominator for one in multiples})
            self.assertEqual(1, math.gcd(*[one.numerator for one in multiples]))


if __name__ == "__main__":
    unittest.main()

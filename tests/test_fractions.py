import unittest
from fractions import Fraction
from itertools import product
from math import isqrt

from halveline.fractions import curve_at, lowest
from halveline.wholes import whole_root


class Fractions(unittest.TestCase):
    def test_lowest_terms(self):
        for n, d in product(range(-12, 13), repeat=2):
            if d:
                told = Fraction(n, d)
                self.assertEqual(lowest(n, d), (told.numerator, told.denominator))
        self.assertEqual(lowest(6 * 10 ** 80, -4 * 10 ** 90), (-3, 2 * 10 ** 10))

    def test_a_curve_at_a_fraction(self):
        for square, one, nought, n in product((-3, 0, 2), (-5, 0, 1), (-1, 0, 7), (-4, 0, 9)):
            for d in (1, 6):
                t = Fraction(n, d)
                told = curve_at((square, one, nought), n, d)
                self.assertEqual(told, (square * t * t + one * t + nought) * d * d)

    def test_whole_roots(self):
        for number in list(range(200)) + [k * k + g for k in (10 ** 40, 3 ** 500, 2 ** 300) for g in (-1, 0, 1, 2 * k)]:
            self.assertEqual(whole_root(number), isqrt(number))


if __name__ == "__main__":
    unittest.main()

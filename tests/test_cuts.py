import unittest
from fractions import Fraction
from math import gcd, isqrt
from random import Random

from halveline.cuts import cut, exact_cut, near_cut
from things import BIG, arrows, drawn_cake, slow_area, slow_below, small_cakes

MANY = (1, 2, 3, 10, 997, 10 ** 9, 10 ** 40 - 1, 10 ** 40)


def roots_between(equation, low, high):
    """How many roots an equation, not one of noughts, has from low to high."""
    square, one, nought = equation
    at_low, at_high = (square * t * t + one * t + nought for t in (low, high))
    if (at_low < 0 < at_high) or (at_high < 0 < at_low):
        return 1
    if square == 0:
        return 1 if at_low == 0 or at_high == 0 else 0
    lowest = Fraction(-one, 2 * square)
    if at_low == 0 or at_high == 0:
        known = low if at_low == 0 else high
        return len({known} | {t for t in [2 * lowest - known] if low <= t <= high})
    spread = one * one - 4 * square * nought
    if spread < 0 or not low <= lowest <= high:
        return 0
    return 1 if spread == 0 else 2


def slow_exact(cake, arrow):
    """The cut as a fraction, or None, by the curve through three parts below."""
    whole = slow_area(cake)
    heights = sorted({arrow[0] * x + arrow[1] * y for x, y in cake})
    low = max(t for t in heights if 2 * slow_below(cake, arrow, t) <= whole)
    high = min(t for t in heights if t > low)
    start, half, end = (2 * slow_below(cake, arrow, t) - whole for t in (low, Fraction(low + high, 2), high))
    # In w, which goes from 0 to 1, the part is square * w * w + one * w + start.
    square = 2 * Fraction(start) - 4 * half + 2 * end
    one = end - start - square
    if square == 0:
        return low + (high - low) * (-start / one)
    spread = one * one - 4 * square * start
    roots = [isqrt(number) for number in (spread.numerator, spread.denominator)]
    if [root * root for root in roots] != [spread.numerator, spread.denominator]:
        return None
    found = [(-one + way * Fraction(*roots)) / (2 * square) for way in (1, -1)]
    found = [w for w in found if 0 <= w <= 1]
    return low + (high - low) * found[0]


class Cuts(unittest.TestCase):
    def check_cut(self, cake, arrow):
        before = list(cake)
        told = cut(cake, arrow)
        self.assertEqual(cake, before)
        self.assertEqual(cut(cake, arrow), told)
        self.assertIs(type(told), tuple)
        self.assertEqual([type(part) for part in told], [int] * 5)
        square, one, nought, low, high = told
        self.assertNotEqual((square, one), (0, 0))
        whole = slow_area(cake)
        self.assertLessEqual(2 * slow_below(cake, arrow, low), whole)
        self.assertGreaterEqual(2 * slow_below(cake, arrow, high), whole)
        self.assertEqual(roots_between((square, one, nought), low, high), 1)
        exact = slow_exact(cake, arrow)
        if exact is not None:
            self.assertEqual(square * exact * exact + one * exact + nought, 0)
            return
        # The one root lies as near to the cut as can be told: the equation changes its sign there.
        near = near_cut(cake, arrow, 10 ** 40)
        self.check_near(cake, arrow, 10 ** 40, near)
        ends = [square * t * t + one * t + nought for t in (Fraction(near + k, 10 ** 40) for k in (0, 1))]
        self.assertLess(ends[0] * ends[1], 0)

    def check_near(self, cake, arrow, many, told):
        whole = slow_area(cake)
        self.assertIs(type(told), int)
        self.assertLessEqual(2 * slow_below(cake, arrow, Fraction(told, many)), whole)
        self.assertGreater(2 * slow_below(cake, arrow, Fraction(told + 1, many)), whole)

    def check_exact(self, cake, arrow):
        told = exact_cut(cake, arrow)
        due = slow_exact(cake, arrow)
        if due is None:
            self.assertIsNone(told)
            return
        self.assertEqual(told, (due.numerator, due.denominator))
        self.assertIs(type(told), tuple)
        self.assertEqual(gcd(*told), 1)
        self.assertGreater(told[1], 0)
        self.assertEqual(2 * slow_below(cake, arrow, Fraction(*told)), slow_area(cake))

    def check(self, cake, arrow, many):
        before = list(cake)
        self.check_cut(cake, arrow)
        self.check_near(cake, arrow, many, near_cut(cake, arrow, many))
        self.check_exact(cake, arrow)
        self.assertEqual(cake, before)

    def test_small_cakes_by_all_arrows(self):
        for cake in small_cakes():
            for arrow in arrows():
                for many in MANY:
                    self.check_near(cake, arrow, many, near_cut(cake, arrow, many))
                self.check_cut(cake, arrow)
                self.check_exact(cake, arrow)

    def test_drawn_cakes(self):
        draw = Random(76)
        for reach in (1, 2, 3, 8, 100, BIG):
            for k in range(25):
                cake = drawn_cake(draw, draw.randint(3, 12), reach)
                for arrow in draw.sample(arrows(), 4):
                    self.check(cake, arrow, draw.choice(MANY))

    def test_a_cut_at_a_corner(self):
        for cake, arrow, at in (
            ([(0, 0), (4, 0), (4, 4), (0, 4)], (1, 1), 4), ([(-2, 0), (0, -3), (2, 0), (0, 5)], (1, 0), 0),
            ([(0, 0), (2, -3), (2, 3)], (0, 1), 0), ([(0, 0), (1, -1), (3, 0), (1, 1)], (0, -1), 0),
        ):
            self.check(cake, arrow, 1)
            self.assertEqual(exact_cut(cake, arrow), (at, 1))
            for many in MANY:
                self.assertEqual(near_cut(cake, arrow, many), at * many)

    def test_known_ones(self):
        triangle = [(0, 0), (4, 0), (0, 4)]
        self.assertIsNone(exact_cut(triangle, (1, 1)))
        self.assertEqual(near_cut(triangle, (1, 1), 10 ** 9), 2828427124)
        self.assertEqual(near_cut(triangle, (-1, -1), 10 ** 9), -2828427125)
        self.assertEqual(near_cut(triangle, (1, 1), 10 ** 40), isqrt(8 * 10 ** 80))
        self.assertEqual(exact_cut(triangle, (1, -1)), (0, 1))
        # Its parallel sides are 7 and 1 long, and where it is cut it is 5 wide.
        self.assertEqual(exact_cut([(0, 0), (7, 0), (1, 6), (0, 6)], (0, 1)), (2, 1))
        self.assertEqual(exact_cut([(0, 0), (7, 0), (1, 6), (0, 6)], (0, -1)), (-2, 1))
        self.assertEqual(exact_cut([(0, 0), (7, 0), (1, 1), (0, 1)], (0, 1)), (1, 3))
        self.assertEqual(exact_cut([(0, 0), (3, 0), (3, 1), (0, 1)], (0, 1)), (1, 2))

    def test_cakes_alike_about_their_middle_are_cut_there(self):
        draw = Random(77)
        for reach in (2, 40, BIG // 4):
            for k in range(10):
                (g, h), (j, p), (x, y) = drawn_cake(draw, 3, reach)
                cake = [(g, h), (j, p), (x, y), (g + x - j, h + y - p)]
                for arrow in arrows():
                    due = Fraction(arrow[0] * (g + x) + arrow[1] * (h + y), 2)
                    self.assertEqual(exact_cut(cake, arrow), (due.numerator, due.denominator))

    def test_turned_about_the_cut_has_the_other_sign(self):
        draw = Random(78)
        for reach in (3, 20, BIG):
            for k in range(20):
                cake = drawn_cake(draw, 8, reach)
                a, b = draw.choice(arrows())
                told, about = exact_cut(cake, (a, b)), exact_cut(cake, (-a, -b))
                self.assertEqual(about, None if told is None else (-told[0], told[1]))
                near, beyond = near_cut(cake, (a, b), 10 ** 20), near_cut(cake, (-a, -b), 10 ** 20)
                self.assertIn(near + beyond, (0,) if told and (told[0] * 10 ** 20) % told[1] == 0 else (-1,))

    def test_from_whichever_corner_on(self):
        for cake in small_cakes():
            for at in range(len(cake)):
                begun = cake[at:] + cake[:at]
                for arrow in ((1, 0), (3, -7)):
                    self.assertEqual(near_cut(begun, arrow, 10 ** 30), near_cut(cake, arrow, 10 ** 30))
                    self.assertEqual(exact_cut(begun, arrow), exact_cut(cake, arrow))

    def test_both_kinds_are_among_the_small_cakes(self):
        kinds = [exact_cut(cake, arrow) is None for cake in small_cakes() for arrow in arrows()]
        self.assertGreater(kinds.count(True), 50)
        self.assertGreater(kinds.count(False), 50)

    def test_arguments_by_name(self):
        cake = [(0, 0), (4, 0), (0, 4)]
        self.assertEqual(cut(arrow=(1, 1), cake=cake), cut(cake, (1, 1)))
        self.assertEqual(near_cut(many=7, arrow=(1, 1), cake=cake), near_cut(cake, (1, 1), 7))
        self.assertEqual(exact_cut(arrow=(1, -1), cake=cake), (0, 1))


if __name__ == "__main__":
    unittest.main()

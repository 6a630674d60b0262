import unittest
from itertools import combinations, product
from math import gcd
from random import Random

from halveline.cuts import exact_cut, near_cut
from halveline.slices import cut_order, slice_of
from things import BIG, arrows, drawn_cake, small_cakes

QUARTERS = (((1, 0), (0, 1)), ((0, 1), (-1, 0)))
MANY = 10 ** 40


def shifted(cake, g, h):
    return [(x + g, y + h) for x, y in cake]


def about(arrow):
    return (-arrow[0], -arrow[1])


def is_within(arrow, lot):
    """Whether an arrow is to the left of a lot's first end, and its second end to the left of it."""
    (a, b), (c, d), (x, y) = lot[0], lot[1], arrow
    return a * y - b * x > 0 and x * d - y * c > 0


def way_to(goal):
    """The lots from a quarter on, each with one end more of the way to the lot or arrow that is the goal."""
    for quarter in QUARTERS:
        lots = [quarter]
        if goal == quarter or goal in quarter:
            return lots
        inner = goal if isinstance(goal[0], int) else (goal[0][0] + goal[1][0], goal[0][1] + goal[1][1])
        while is_within(inner, lots[-1]) and goal != lots[-1] and goal not in lots[-1]:
            (a, b), (c, d) = lots[-1]
            new = (a + c, b + d)
            sides = [(lots[-1][0], new), (new, lots[-1][1])]
            lots += [lot for lot in sides if is_within(inner, lot) or inner == new][:1]
        if goal == lots[-1] or goal in lots[-1]:
            return lots
    raise AssertionError(f"no way to {goal}")


class CutOrder(unittest.TestCase):
    def check(self, one, other, arrow, due):
        before = (list(one), list(other))
        self.assertEqual(cut_order(one, other, arrow), due, (one, other, arrow))
        self.assertEqual(cut_order(other, one, arrow), -due)
        self.assertEqual(cut_order(one, other, about(arrow)), -due)
        self.assertEqual(cut_order(other, one, about(arrow)), due)
        self.assertEqual((one, other), before)

    def check_near(self, one, other, arrow):
        first, second = near_cut(one, arrow, MANY), near_cut(other, arrow, MANY)
        # Of these cakes unlike cuts are told apart so; alike ones have no sign.
        self.check(one, other, arrow, (first > second) - (first < second))

    def test_a_cake_and_itself_shifted_and_mirrored(self):
        for cake in small_cakes():
            cake = [(x // 3, y // 3) for x, y in cake] if BIG in sum(cake, ()) else cake
            for arrow in arrows()[:16]:
                a, b = arrow
                self.check(cake, cake, arrow, 0)
                self.check(cake, cake[1:] + cake[:1], arrow, 0)
                for many in (-3, 1, 10 ** 20):
                    self.check(cake, shifted(cake, -b * many, a * many), arrow, 0)
                    self.check(cake, shifted(cake, a * many, b * many), arrow, -1 if many > 0 else 1)
                self.check(cake, shifted(cake, -b * 5 - a, a * 5 - b), arrow, 1)

    def test_mirrored_along_the_line(self):
        for cake in small_cakes():
            self.check(cake, [(-x, y) for x, y in cake[::-1]], (0, 1), 0)
            self.check(cake, [(x, -y) for x, y in cake[::-1]], (1, 0), 0)
            self.check(cake, [(y, x) for x, y in cake[::-1]], (1, 1), 0)
            self.check(cake, [(-y, -x) for x, y in cake[::-1]], (1, -1), 0)

    def test_cuts_that_are_one_and_no_fractions(self):
        # The cut of a triangle with one side along the line does not depend on where the third corner lies.
        triangles = [[(g, 0), (g + wide, 0), (x, 7)] for g, wide, x in product((-3, 0, 8), (1, 5), (-20, 0, 1, 30))]
        self.assertIsNone(exact_cut(triangles[0], (0, 1)))
        for one, other in combinations(triangles, 2):
            self.check(one, other, (0, 1), 0)
            self.check(one, [(x, y + 1) for x, y in other], (0, 1), -1)
            self.check(one, [(x, 2 * y) for x, y in other], (0, 1), -1)
        # Two that are stretched unlike one another, one and the same root by unlike equations: 7 - root of 8, twice.
        one, other = [(0, 3), (4, 3), (4, 7)], [(-6, 3), (-1, 3), (0, 7)]
        self.assertIsNone(exact_cut(one, (0, 1)))
        self.check(one, other, (0, 1), 0)

    def test_roots_of_one_kind_that_are_unlike(self):
        for k in range(1, 30):
            one = [(0, 0), (k, 0), (0, k)]
            for j in range(1, 30):
                self.check(one, [(0, 0), (j, 0), (0, j)], (1, 1), (k > j) - (k < j))

    def test_a_fraction_and_a_root(self):
        for k in range(1, 40):
            square = [(0, k), (2, k), (2, k + 2), (0, k + 2)]
            for j in range(1, 40):
                # The triangle is cut at j less the root of half of j * j, the square at k + 1.
                rest = j - k - 1
                due = 1 if rest > 0 and 2 * rest * rest > j * j else -1
                self.check([(0, 0), (3, 0), (0, j)], square, (0, 1), due)

    def test_cuts_that_lie_very_near_each_other(self):
        # x * x - 2 * y * y is 1 and -1 in turn: the cut of the triangle, y times the root of 2, is ever nearer to x.
        x, y, more = 1, 1, 1
        while x < 10 ** 29:
            triangle = [(0, 0), (2 * y, 0), (0, 2 * y)]
            square = [(x - 1, 0), (x, -1), (x + 1, 0), (x, 1)]
            self.check(triangle, square, (1, 1), more)
            # Another one with the same root in it, shifted, and so both cuts are roots.
            base = [(0, 0), (2, 0), (0, 2)]
            longer = [(0, 0), (2 * y + 2, 0), (0, 2 * y + 2)]
            self.check(longer, shifted(base, x, 0), (1, 1), more)
            x, y, more = x + 2 * y, x + y, -more

    def test_drawn_cakes(self):
        draw = Random(81)
        for reach in (1, 2, 3, 9, 1000, BIG):
            for k in range(40):
                one, other = (drawn_cake(draw, draw.randint(3, 12), reach) for j in range(2))
                for arrow in draw.sample(arrows(), 4):
                    self.check_near(one, other, arrow)

    def test_many_small_cakes_in_the_order_of_their_cuts(self):
        draw = Random(82)
        for arrow in ((1, 0), (0, -1), (1, 2), (-3, 1)):
            cakes = [drawn_cake(draw, draw.randint(3, 6), 4) for k in range(150)]
            cakes.sort(key=lambda cake: near_cut(cake, arrow, MANY))
            for one, other in zip(cakes, cakes[1:]):
                self.check_near(one, other, arrow)

    def test_arguments_by_name(self):
        one, other = small_cakes()[:2]
        self.assertEqual(cut_order(arrow=(1, 0), other=other, one=one), -1)


class Slices(unittest.TestCase):
    def check(self, one, other, steps):
        before = (list(one), list(other))
        told = slice_of(one, other, steps)
        self.assertEqual((one, other), before)
        self.assertEqual(slice_of(one, other, steps), told)
        self.assertEqual([type(part) for part in (told, told[0], told[1])], [tuple] * 3)
        (a, b), (c, d) = told
        self.assertEqual([type(part) for part in (a, b, c, d)], [int] * 4)
        if told[0] == told[1]:
            self.assertEqual(cut_order(one, other, told[0]), 0)
            way = way_to(told[0])
            self.assertLess(len(way) - 1, steps)
            self.assertEqual(gcd(a, b), 1)
        else:
            self.assertEqual(a * d - b * c, 1)
            way = way_to(told)
            self.assertEqual(len(way) - 1, steps)
            self.check_ends(one, other, told)
        # Ahead of each step that was made the order is 0 by no end.
        for lot in way[:-1]:
            self.check_ends(one, other, lot)
            self.assertNotIn(0, [cut_order(one, other, end) for end in lot])
        return told

    def check_ends(self, one, other, lot):
        orders = [cut_order(one, other, end) for end in lot]
        self.assertNotIn(orders, ([1, 1], [-1, -1]))

    def test_the_way_to_a_lot(self):
        self.assertEqual(way_to(QUARTERS[1]), [QUARTERS[1]])
        self.assertEqual(way_to(((1, 1), (0, 1))), [QUARTERS[0], ((1, 1), (0, 1))])
        self.assertEqual(way_to(((-2, 1), (-1, 0))), [QUARTERS[1], ((-1, 1), (-1, 0)), ((-2, 1), (-1, 0))])
        self.assertEqual(len(way_to((2, 3))), 4)
        with self.assertRaises(AssertionError):
            way_to(((1, 0), (-1, 0)))
        with self.assertRaises(AssertionError):
            way_to(((0, -1), (1, 0)))

    def test_drawn_cakes_with_all_steps(self):
        draw = Random(83)
        for reach in (3, 20, BIG):
            for k in range(8):
                one, other = (drawn_cake(draw, draw.randint(3, 12), reach) for j in range(2))
                for steps in (0, 1, 2, 3, 5, 8, 13, 25, 26):
                    self.check(one, other, steps)

    def test_cakes_that_lie_apart(self):
        draw = Random(84)
        for g, h in ((40, 1), (1, 40), (-40, 1), (-1, 40), (30, 31), (-30, 31), (7, -50), (-50, -7)):
            one, other = drawn_cake(draw, 7, 9), shifted(drawn_cake(draw, 7, 9), g, h)
            for steps in (0, 1, 2, 4, 9, 26):
                self.check(one, other, steps)
                self.check(other, one, steps)

    def test_both_quarters(self):
        square = [(0, 0), (2, 0), (2, 2), (0, 2)]
        for g, h, due in ((5, -7, 0), (-5, 7, 0), (5, 7, 1), (-5, -7, 1)):
            self.assertEqual(slice_of(square, shifted(square, g, h), 0), QUARTERS[due])

    def test_an_end_with_order_nought(self):
        square = [(0, 0), (2, 0), (2, 2), (0, 2)]
        for (g, h), arrow, depth in (
            ((5, -5), (1, 1), 1), ((5, 5), (-1, 1), 1), ((4, -2), (1, 2), 2), ((-2, 4), (2, 1), 2), ((3, 2), (-2, 3), 3),
            ((0, 4), (1, 0), 0), ((4, 0), (0, 1), 0), ((0, -4), (1, 0), 0), ((-4, 0), (0, 1), 0), ((7, -1), (1, 7), 7),
        ):
            other = shifted(square, g, h)
            for steps in range(12):
                told = self.check(square, other, steps)
                self.assertEqual(told == (arrow, arrow), steps > depth, (told, arrow, steps))

    def test_both_ends_with_order_nought(self):
        for cake in small_cakes():
            self.assertIn(slice_of(cake, cake, 0), QUARTERS)
            for steps in (1, 2, 26):
                first, second = slice_of(cake, cake, steps)
                self.assertEqual(first, second)
                self.assertIn(first, ((1, 0), (0, 1), (-1, 0)))

    def test_a_slice_of_triangles_whose_cuts_are_roots(self):
        one, other = [(0, 0), (4, 0), (0, 4)], [(5, 9), (11, 8), (6, 13)]
        for steps in range(27):
            self.check(one, other, steps)

    def test_arguments_by_name(self):
        one, other = small_cakes()[:2]
        self.assertEqual(slice_of(steps=9, other=other, one=one), slice_of(one, other, 9))


if __name__ == "__main__":
    unittest.main()

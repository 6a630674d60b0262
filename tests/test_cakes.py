import unittest
from fractions import Fraction
from itertools import permutations
from random import Random

from halveline.cakes import area, below, is_cake
from things import BIG, arrows, drawn_cake, drawn_heap, grid, hull, odd_things, slow_area, slow_below, small_cakes

STAR = [(0, 10), (-6, -8), (9, 3), (-9, 3), (6, -8)]


def rolled(cake):
    """The same list begun at each of its places."""
    return [cake[at:] + cake[:at] for at in range(len(cake))]


class IsCake(unittest.TestCase):
    def check(self, told, corners):
        before = list(corners)
        self.assertIs(is_cake(corners), told, corners)
        self.assertEqual(corners, before)

    def test_cakes_from_each_corner_on_and_the_other_way_round(self):
        draw = Random(71)
        for cake in small_cakes() + [drawn_cake(draw, 12, reach) for reach in (3, 9, 500, BIG) for k in range(20)]:
            for begun in rolled(cake):
                self.check(True, begun)
                self.check(False, begun[::-1])

    def test_a_corner_twice(self):
        for cake in small_cakes():
            for at, corner in enumerate(cake):
                self.check(False, cake[:at] + [corner] + cake[at:])
                self.check(False, cake + [corner])
                self.check(False, [corner] + cake)
            self.check(False, cake + cake)
            self.check(False, cake[:1] * len(cake))

    def test_three_points_on_a_line(self):
        for cake in rolled([(0, 0), (4, 0), (4, 4), (0, 4)]):
            (x, y), (g, h) = cake[:2]
            self.check(False, cake[:1] + [((x + g) // 2, (y + h) // 2)] + cake[1:])
            self.check(False, cake[:2] + [(2 * g - x, 2 * h - y)] + cake[2:])
        for heap in ([(0, 0), (1, 1), (2, 2)], [(0, 0), (2, 0), (1, 0)], [(0, 0), (1, 0), (2, 0), (1, 5)]):
            for begun in rolled(heap):
                self.check(False, begun)

    def test_dents_and_stars(self):
        for heap in ([(0, 0), (4, 0), (1, 1), (0, 4)], [(0, 0), (9, 0), (9, 9), (5, 1), (0, 9)], STAR):
            for begun in rolled(heap):
                self.check(False, begun)
                self.check(False, begun[::-1])
        # Each three neighbours of a star turn left; only the other corners tell that it is no cake.
        for begun in rolled(STAR):
            (g, h), (j, k), (x, y) = begun[:3]
            self.assertGreater((j - g) * (y - h), (k - h) * (x - g))

    def test_none_to_three_points(self):
        for heap in ([], [(0, 0)], [(0, 0), (1, 0)], [(0, 0), (0, 0)], [(0, 0)] * 3, [(0, 0), (1, 0), (0, 0)]):
            self.check(False, heap)
        self.check(True, [(0, 0), (1, 0), (0, 1)])
        self.check(False, [(0, 0), (0, 1), (1, 0)])
        self.check(True, [(BIG, BIG), (-BIG, BIG - 1), (-BIG, BIG - 2)])

    def test_small_lists_against_the_outermost_points(self):
        for many in (3, 4):
            for heap in permutations(grid(1), many):
                cake = hull(heap)
                self.check(len(cake) == many and list(heap) in rolled(cake), list(heap))

    def test_up_to_twenty_four_points(self):
        draw = Random(72)
        ring = hull([(x, y) for x, y in grid(30) if x * x + y * y <= 900])
        self.assertGreaterEqual(len(ring), 24)
        for many in range(13, 25):
            kept = sorted(draw.sample(range(len(ring)), many))
            cake = [ring[at] for at in kept]
            self.check(True, cake)
            at = draw.randrange(many - 1)
            self.check(False, cake[:at] + [cake[at + 1], cake[at]] + cake[at + 2:])
            self.check(False, drawn_heap(draw, many, 5))

    def test_other_things(self):
        for thing in odd_things():
            self.assertIs(is_cake(thing), False)
        self.assertIs(is_cake(((0, 0), (1, 0), (0, 1))), False)
        self.assertIs(is_cake([(0, 0), (BIG + 1, 0), (0, 1)]), False)


class Area(unittest.TestCase):
    def test_against_a_sum_of_triangles_from_whichever_corner_on(self):
        draw = Random(73)
        for cake in small_cakes() + [drawn_cake(draw, 12, reach) for reach in (2, 50, BIG) for k in range(30)]:
            for begun in rolled(cake):
                before = list(begun)
                self.assertEqual(area(begun), slow_area(cake))
                self.assertEqual(begun, before)
            self.assertGreater(area(cake), 0)

    def test_known_ones(self):
        self.assertEqual(area([(0, 0), (1, 0), (0, 1)]), 1)
        self.assertEqual(area([(5, 5), (9, 5), (9, 9), (5, 9)]), 32)
        self.assertEqual(area([(-BIG, -BIG), (BIG, -BIG), (BIG, BIG), (-BIG, BIG)]), 8 * BIG * BIG)


class Below(unittest.TestCase):
    def check(self, cake, arrow, place, stretch=1):
        n, d = place.numerator * stretch, place.denominator * stretch
        before = list(cake)
        told = below(cake, arrow, n, d)
        self.assertEqual(cake, before)
        due = Fraction(slow_below(cake, arrow, place))
        self.assertEqual(told, (due.numerator, due.denominator))
        self.assertEqual([type(part) for part in told], [int, int])
        self.assertIs(type(told), tuple)
        rest = below(cake, (-arrow[0], -arrow[1]), -n, d)
        self.assertEqual(Fraction(*told) + Fraction(*rest), slow_area(cake))

    def test_at_corners_between_them_and_beyond(self):
        draw = Random(74)
        for cake in small_cakes() + [drawn_cake(draw, 12, reach) for reach in (3, 60, BIG) for k in range(3)]:
            for arrow in arrows():
                heights = sorted({arrow[0] * x + arrow[1] * y for x, y in cake})
                for low, high in zip([heights[0] - 5] + heights, heights + [heights[-1] + 5]):
                    self.check(cake, arrow, Fraction(low))
                    self.check(cake, arrow, Fraction(low + high, 2), 6)
                    self.check(cake, arrow, low + (high - low) * Fraction(draw.randint(1, 10 ** 9), 10 ** 9), 3)

    def test_none_and_the_whole(self):
        for cake in small_cakes():
            for arrow in arrows():
                heights = [arrow[0] * x + arrow[1] * y for x, y in cake]
                for d in (1, 2, 10 ** 40):
                    for beyond in (0, 1, 10 ** 60):
                        self.assertEqual(below(cake, arrow, min(heights) * d - beyond, d), (0, 1))
                        self.assertEqual(below(cake, arrow, max(heights) * d + beyond, d), (slow_area(cake), 1))

    def test_known_ones(self):
        square = [(0, 0), (4, 0), (4, 4), (0, 4)]
        self.assertEqual(below(square, (1, 0), 3, 2), (12, 1))
        self.assertEqual(below(square, (1, 0), 6, 4), (12, 1))
        self.assertEqual(below(square, (1, 1), 1, 3), (1, 9))
        self.assertEqual(below(square, (-1, -1), -4, 1), (16, 1))
        self.assertEqual(below(square, (1, 2), 7, 1), (20, 1))

    def test_from_whichever_corner_on(self):
        for cake in small_cakes():
            for begun in rolled(cake):
                self.assertEqual(below(begun, (3, -7), 22, 7), below(cake, (3, -7), 22, 7))

    def test_fractions_with_many_figures(self):
        draw = Random(75)
        for cake in small_cakes():
            for arrow in ((1, 0), (3, -7), (-9999999999, 1)):
                heights = [arrow[0] * x + arrow[1] * y for x, y in cake]
                d = draw.randint(10 ** 91, 10 ** 92 - 1) if max(map(abs, heights)) < 10 ** 5 else 10 ** 45 + 7
                self.check(cake, arrow, Fraction(draw.randint(min(heights) * d, max(heights) * d), d))
        tiny = Fraction(1, 10 ** 91)
        self.check([(0, 0), (4, 0), (0, 4)], (1, 1), tiny)
        self.check([(0, 0), (4, 0), (0, 4)], (-1, -1), -4 + tiny)

    def test_arguments_by_name(self):
        cake = [(0, 0), (4, 0), (0, 4)]
        self.assertEqual(below(d=2, n=3, arrow=(1, 0), cake=cake), below(cake, (1, 0), 3, 2))
        self.assertIs(is_cake(thing=cake), True)
        self.assertEqual(area(cake=cake), 16)


if __name__ == "__main__":
    unittest.main()

import random
import unittest
from itertools import product

from halveline.lines import is_line
from halveline.pairs import halving
from things import BIG, drawn_heap, grid, slow_halves, small_heaps


class Halving(unittest.TestCase):
    def check(self, one, other):
        before = (list(one), list(other))
        told = halving(one, other)
        self.assertEqual((one, other), before)
        self.assertEqual(halving(one, other), told)
        if len(set(one + other)) < 2:
            self.assertIsNone(told)
            return
        self.assertIs(type(told), tuple)
        (a, b, c), first, second = told
        self.assertTrue(is_line((a, b, c)))
        self.assertIn(first, one + other)
        self.assertIn(second, one + other)
        self.assertNotEqual(first, second)
        for x, y in (first, second):
            self.assertEqual(a * x + b * y, c)
        self.assertTrue(slow_halves((a, b, c), one), (one, other))
        self.assertTrue(slow_halves((a, b, c), other), (one, other))

    def test_small_heaps_each_beside_each(self):
        for one, other in product(small_heaps(), repeat=2):
            self.check(one, other)

    def test_none_just_where_there_are_fewer_than_two_places(self):
        point = (3, -4)
        for one, other in (([], []), ([point], []), ([], [point]), ([point], [point]), ([point] * 4, [point] * 3)):
            self.assertIsNone(halving(one, other))
        for one, other in (([point], [(0, 0)]), ([point, (0, 0)], []), ([], [point, (0, 0)])):
            self.assertIsNotNone(halving(one, other))

    def test_the_one_line_of_two_places(self):
        self.assertEqual(halving([(0, 0)], [(2, 1)])[0], (1, -2, 0))
        self.assertEqual(sorted(halving([(0, 0)], [(2, 1)])[1:]), [(0, 0), (2, 1)])

    def test_the_one_line_of_two_rows(self):
        one, other = [(0, 0), (2, 0), (40, 0)], [(-9, 1), (3, 1), (4, 1)]
        self.assertEqual(halving(one, other)[0], (1, -1, 2))
        self.assertEqual(halving(other, one)[0], (1, -1, 2))

    def test_drawn_heaps(self):
        draw = random.Random(21)
        for reach in (1, 2, 4, 30, BIG):
            for many in range(60):
                self.check(drawn_heap(draw, draw.randint(0, 9), reach), drawn_heap(draw, draw.randint(0, 9), reach))

    def test_one_heap_twice_or_beside_none(self):
        draw = random.Random(22)
        for many in range(1, 12):
            heap = drawn_heap(draw, many, 5)
            self.check(heap, heap)
            self.check(heap, [])
            self.check([], heap)

    def test_one_heavy_place(self):
        draw = random.Random(23)
        for reach in (3, 100, BIG):
            one = drawn_heap(draw, 7, reach) + [(1, 1)] * 12
            other = drawn_heap(draw, 6, reach) + [(-1, 2)] * 9
            self.check(one, other)
            self.check(one, drawn_heap(draw, 11, reach))
            self.check(one, one)
            self.check(one, [(1, 1)] * 5)

    def test_up_to_forty_points(self):
        draw = random.Random(24)
        for many, more in ((40, 40), (39, 40), (40, 39), (39, 39), (40, 1), (1, 40), (40, 0)):
            for reach in (4, 1000, BIG):
                self.check(drawn_heap(draw, many, reach), drawn_heap(draw, more, reach))

    def test_all_on_one_line_and_in_a_grid(self):
        self.check([(2 * k, -k) for k in range(9)], [(2 * k, -k) for k in range(5, 20)])
        self.check(grid(2), [(x + 1, y + 3) for x, y in grid(2)])

    def test_arguments_by_name(self):
        self.assertEqual(halving(other=[(2, 1)], one=[(0, 0)]), halving([(0, 0)], [(2, 1)]))


if __name__ == "__main__":
    unittest.main()

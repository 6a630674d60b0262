import random
import unittest
from itertools import combinations, product

from halveline.alllines import all_lines, are_plain
from halveline.lines import is_line, side
from things import BIG, drawn_heap, grid, slow_all_lines, slow_line, slow_order, small_heaps


def drawn_pairs():
    """Pairs of heaps as they are drawn, the same ones each time."""
    draw = random.Random(41)
    return [
        (drawn_heap(draw, draw.randint(0, 7), reach), drawn_heap(draw, draw.randint(0, 7), reach))
        for reach in (1, 2, 6, 100, BIG // 9) for k in range(25)
    ]


def slow_plain(heap):
    """Whether a heap is plain, each two and each three of its points tried."""
    if len(set(heap)) < len(heap):
        return False
    return all(slow_line(p, q) != slow_line(p, r) for p, q, r in combinations(heap, 3))


def upright_first(a, b, c):
    """The line, turned about where it has the wrong sign."""
    return (-a, -b, -c) if (a, b) < (0, 0) else (a, b, c)


class AllLines(unittest.TestCase):
    def check(self, one, other):
        before = (list(one), list(other))
        told = all_lines(one, other)
        self.assertEqual((one, other), before)
        self.assertIs(type(told), list)
        self.assertEqual(told, slow_all_lines(one, other), (one, other))
        self.assertEqual(all_lines(other, one), told)
        self.assertTrue(all(is_line(line) for line in told))
        self.assertEqual(bool(told), len(set(one + other)) > 1)

    def test_small(self):
        self.assertEqual(all_lines([(0, 0)], [(2, 1)]), [(1, -2, 0)])
        self.assertEqual(all_lines([(0, 0), (2, 0), (40, 0)], [(-9, 1), (3, 1), (4, 1)]), [(1, -1, 2)])
        square = [(0, 0), (1, 0), (0, 1), (1, 1)]
        told = [(1, -1, 0), (1, 0, 0), (1, 0, 1), (1, 1, 1), (0, 1, 0), (0, 1, 1)]
        self.assertEqual(all_lines(square, square), told)
        self.assertEqual(all_lines(square[:2], square[2:]), [(1, -1, 0), (1, 0, 0), (1, 0, 1), (1, 1, 1)])

    def test_without_points(self):
        self.assertEqual(all_lines([], []), [])
        self.assertEqual(all_lines([(3, 4)] * 3, []), [])
        self.assertEqual(all_lines([], [(3, 4)]), [])
        self.assertEqual(all_lines([(3, 4)], [(3, 4)]), [])
        self.assertEqual(all_lines([], [(0, 0), (2, 1)]), [(1, -2, 0)])

    def test_small_heaps_each_beside_each(self):
        for one, other in product(small_heaps(), repeat=2):
            self.check(one, other)

    def test_drawn_heaps(self):
        for one, other in drawn_pairs():
            self.check(one, other)

    def test_up_to_twenty_points(self):
        draw = random.Random(42)
        for many, more, reach in ((20, 20, 3), (20, 19, 30), (19, 20, BIG), (19, 19, 500), (20, 0, 9), (1, 20, 9)):
            self.check(drawn_heap(draw, many, reach), drawn_heap(draw, more, reach))

    def test_told_lists_are_the_askers_own(self):
        told = all_lines([(0, 0)], [(2, 1)])
        told.clear()
        self.assertEqual(all_lines([(0, 0)], [(2, 1)]), [(1, -2, 0)])
        all_lines([], []).append((1, 0, 0))
        self.assertEqual(all_lines([], []), [])


class Plain(unittest.TestCase):
    def test_plain(self):
        for one, other in (([], []), ([(1, 2)], []), ([], [(1, 2)]), ([(1, 2)], [(2, 1)]), ([(0, 0), (1, 0)], [(0, 1)]),
                           ([(0, 0), (1, 0), (0, 1), (1, 1)], []), ([(BIG, BIG), (0, 0)], [(BIG, BIG - 1)])):
            self.assertIs(are_plain(one, other), True, (one, other))

    def test_a_point_twice(self):
        for one, other in (([(1, 2), (1, 2)], []), ([], [(1, 2), (1, 2)]), ([(1, 2)], [(1, 2)]),
                           ([(0, 0), (1, 0)], [(0, 1), (1, 0)]), ([(0, 0), (1, 0), (0, 0)], [(0, 1)])):
            self.assertIs(are_plain(one, other), False, (one, other))

    def test_three_on_one_line(self):
        for one, other in (([(0, 0), (1, 1), (2, 2)], []), ([(0, 0), (2, 2)], [(1, 1)]), ([(1, 1)], [(5, 1), (-3, 1)]),
                           ([(0, 0), (4, 1)], [(9, 9), (8, 2), (0, 5)]), ([(-BIG, -BIG), (0, 0)], [(BIG, BIG)])):
            self.assertIs(are_plain(one, other), False, (one, other))

    def test_against_all_twos_and_threes(self):
        seen = set()
        for one, other in drawn_pairs() + list(product(small_heaps(), repeat=2)):
            before = (list(one), list(other))
            told = are_plain(one, other)
            self.assertIs(told, slow_plain(one + other), (one, other))
            self.assertIs(are_plain(other, one), told)
            self.assertEqual((one, other), before)
            seen.add((told, len(one + other) > 5))
        self.assertEqual(len(seen), 4)

    def test_plain_odd_heaps_have_oddly_many_lines_through_a_point_of_each(self):
        draw = random.Random(43)
        tried = 0
        for k in range(80):
            one, other = drawn_heap(draw, draw.choice((1, 3, 5, 7)), 60), drawn_heap(draw, draw.choice((1, 3, 5, 7)), 60)
            if are_plain(one, other):
                lines = all_lines(one, other)
                self.assertEqual(len(lines) % 2, 1)
                for line in lines:
                    self.assertEqual([[side(line, point) for point in heap].count(0) for heap in (one, other)], [1, 1])
                tried += 1
        self.assertGreater(tried, 40)


class Carried(unittest.TestCase):
    def check(self, spread, carry):
        for one, other in drawn_pairs() + [(grid(1), grid(1)[:4]), ([(0, 0)], [(2, 1)])]:
            told = all_lines([spread(x, y) for x, y in one], [spread(x, y) for x, y in other])
            self.assertEqual(told, slow_order(carry(a, b, c) for a, b, c in all_lines(one, other)))

    def test_shifted(self):
        for g, h in ((0, 0), (5, 0), (0, -3), (-7, 11), (BIG // 2, -BIG // 2)):
            self.check(lambda x, y: (x + g, y + h), lambda a, b, c: (a, b, c + a * g + b * h))

    def test_turned_by_a_quarter(self):
        self.check(lambda x, y: (-y, x), lambda a, b, c: upright_first(-b, a, c))

    def test_stretched(self):
        for k in (1, 2, 3, 7):
            self.check(lambda x, y: (k * x, k * y), lambda a, b, c: (a, b, k * c))


class Names(unittest.TestCase):
    def test_arguments_by_name(self):
        self.assertEqual(all_lines(other=[(2, 1)], one=[(0, 0)]), [(1, -2, 0)])
        self.assertIs(are_plain(other=[(2, 1)], one=[(0, 0)]), True)


if __name__ == "__main__":
    unittest.main()

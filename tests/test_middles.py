import random
import unittest
from itertools import combinations

from halveline.errors import Empty, LineError
from halveline.lines import halves, is_line
from halveline.middles import bisectors, middle, rank, slopes
from halveline.normals import between, is_normal, value
from things import BIG, drawn_heap, grid, slow_all_lines, slow_line, slow_order, small_heaps

NORMALS = [(1, 0), (0, 1), (1, 1), (1, -1), (3, -2), (1, 5), (BIG, 1 - BIG), (1, -BIG)]


def drawn_heaps():
    """Heaps as they are drawn, the same ones each time."""
    draw = random.Random(11)
    return [drawn_heap(draw, many, reach) for many in range(8) for reach in (1, 3, 50, BIG)]


class Middle(unittest.TestCase):
    def test_odd_numbers(self):
        self.assertEqual(middle([(7, 9)], (1, 0)), (7, 7))
        self.assertEqual(middle([(7, 9)], (0, 1)), (9, 9))
        self.assertEqual(middle([(5, 0), (1, 0), (2, 0)], (1, 0)), (2, 2))
        self.assertEqual(middle([(5, 1), (1, 8), (2, 3), (4, 0), (9, 9)], (1, -1)), (0, 0))

    def test_even_numbers(self):
        self.assertEqual(middle([(5, 0), (1, 0)], (1, 0)), (1, 5))
        self.assertEqual(middle([(5, 0), (1, 0), (2, 0), (9, 0)], (1, 0)), (2, 5))
        self.assertEqual(middle([(5, 0), (1, 0), (2, 0), (9, 0)], (0, 1)), (0, 0))

    def test_alike_points_count_as_often(self):
        self.assertEqual(middle([(0, 0), (0, 0), (0, 0), (5, 5), (9, 9)], (1, 0)), (0, 0))
        self.assertEqual(middle([(0, 0), (0, 0), (5, 5), (9, 9)], (1, 1)), (0, 10))
        self.assertEqual(middle([(4, 4)] * 6, (3, -2)), (4, 4))

    def test_without_points(self):
        for normal in NORMALS:
            with self.assertRaises(Empty):
                middle([], normal)
        with self.assertRaises(LineError):
            middle([], (1, 0))

    def test_of_the_lines_just_those_from_low_to_high_halve(self):
        for heap in small_heaps() + drawn_heaps():
            for a, b in NORMALS if heap else []:
                told = middle(heap, (a, b))
                self.assertIs(type(told), tuple)
                low, high = told
                for c in (low, high, (low + high) // 2):
                    self.assertTrue(halves((a, b, c), heap), (heap, a, b, c))
                for c in (low - 1, high + 1):
                    self.assertFalse(halves((a, b, c), heap), (heap, a, b, c))

    def test_as_the_numbers_say(self):
        for heap in drawn_heaps():
            for a, b in NORMALS if heap else []:
                values = sorted(a * x + b * y for x, y in heap)
                told = (values[(len(heap) - 1) // 2], values[len(heap) // 2])
                self.assertEqual(middle(heap, (a, b)), told)


class Slopes(unittest.TestCase):
    def test_fewer_than_two_places(self):
        for heap in ([], [(3, 4)], [(3, 4)] * 5):
            self.assertEqual(slopes(heap), [])

    def test_on_one_line(self):
        self.assertEqual(slopes([(k, 0) for k in range(5)]), [(0, 1)])
        self.assertEqual(slopes([(0, k) for k in range(5)]), [(1, 0)])
        self.assertEqual(slopes([(4 * k, 2 * k) for k in (3, 0, 3, 1)]), [(1, -2)])

    def test_in_a_grid(self):
        self.assertEqual(slopes([(0, 0), (1, 0), (0, 1), (1, 1)]), [(1, -1), (1, 0), (1, 1), (0, 1)])
        told = [(2, -1), (1, -1), (1, -2), (1, 0), (1, 2), (1, 1), (2, 1), (0, 1)]
        self.assertEqual(slopes(grid(1)), slow_order(told))
        self.assertEqual(slopes(grid(1))[-1], (0, 1))

    def test_against_all_pairs(self):
        for heap in small_heaps() + drawn_heaps():
            told = slopes(heap)
            normals = {slow_line(*pair)[:2] for pair in combinations(set(heap), 2)}
            self.assertEqual(told, slow_order(normals), heap)
            self.assertTrue(all(is_normal(normal) for normal in told))

    def test_told_lists_are_the_askers_own(self):
        for heap in ([], [(0, 0)], [(0, 0), (2, 1)], grid(1)):
            told = slopes(heap)
            before = list(told)
            told.append((9, 1))
            told[:1] = []
            self.assertEqual(slopes(heap), before)
            self.assertIs(type(told), list)


class Rank(unittest.TestCase):
    def test_small(self):
        self.assertEqual(rank([], (1, 0)), [])
        self.assertEqual(rank([(3, 4)] * 3, (1, 0)), [[(3, 4)]])
        heap = [(1, 5), (0, 2), (1, -5), (0, 2), (-7, 0), (1, 0)]
        self.assertEqual(rank(heap, (1, 0)), [[(-7, 0)], [(0, 2)], [(1, -5), (1, 0), (1, 5)]])
        self.assertEqual(rank(heap, (0, 1)), [[(1, -5)], [(-7, 0), (1, 0)], [(0, 2)], [(1, 5)]])
        long = [(BIG, 0), (10, 0), (9, 0), (-BIG, 0)]
        self.assertEqual(rank(long, (1, 0)), [[(-BIG, 0)], [(9, 0)], [(10, 0)], [(BIG, 0)]])

    def test_by_any_normal(self):
        for heap in small_heaps() + drawn_heaps():
            for normal in NORMALS + slopes(heap):
                told = rank(heap, normal)
                values = sorted({value(normal, point) for point in heap})
                lists = [sorted({point for point in heap if value(normal, point) == one}) for one in values]
                self.assertEqual(told, lists)

    def test_between_slopes_each_list_has_one_place(self):
        for heap in small_heaps() + drawn_heaps():
            told = slopes(heap)
            for one, other in zip(told, told[1:]):
                amid = between(one, other)
                ranks = [rank(heap, normal) for normal in (amid, between(one, amid), between(amid, other))]
                self.assertEqual(ranks[0], ranks[1])
                self.assertEqual(ranks[0], ranks[2])
                self.assertTrue(all(len(row) == 1 for row in ranks[0]))

    def test_by_a_slope_and_beside_it(self):
        for heap in small_heaps() + drawn_heaps():
            told = slopes(heap)
            for ahead, slope, behind in zip(told, told[1:], told[2:]):
                rows = rank(heap, slope)
                self.assertTrue(any(len(row) > 1 for row in rows))
                one = [row[0] for row in rank(heap, between(ahead, slope))]
                other = [row[0] for row in rank(heap, between(slope, behind))]
                # A line that is turned left meets the places of one list from its one end, or from the other.
                self.assertEqual(one, [place for row in rows for place in self.along(row, slope)])
                self.assertEqual(other, [place for row in rows for place in self.along(row, slope)[::-1]])

    def along(self, row, slope):
        return sorted(row, key=lambda point: slope[1] * point[0] - slope[0] * point[1])

    def test_told_lists_are_the_askers_own(self):
        heap = [(1, 5), (0, 2), (1, -5)]
        told = rank(heap, (1, 0))
        told[1].append((9, 9))
        told[0].clear()
        told.append([(8, 8)])
        self.assertEqual(rank(heap, (1, 0)), [[(0, 2)], [(1, -5), (1, 5)]])
        self.assertEqual(heap, [(1, 5), (0, 2), (1, -5)])


class Bisectors(unittest.TestCase):
    def test_fewer_than_two_places(self):
        for heap in ([], [(3, 4)], [(3, 4)] * 5):
            self.assertEqual(bisectors(heap), [])

    def test_small(self):
        self.assertEqual(bisectors([(0, 0), (2, 1)]), [(1, -2, 0)])
        self.assertEqual(bisectors([(0, 0), (4, 0), (0, 4)]), [(1, 0, 0), (1, 1, 4), (0, 1, 0)])
        square = [(0, 0), (1, 0), (0, 1), (1, 1)]
        told = [(1, -1, 0), (1, 0, 0), (1, 0, 1), (1, 1, 1), (0, 1, 0), (0, 1, 1)]
        self.assertEqual(bisectors(square), told)

    def test_against_all_pairs(self):
        for heap in small_heaps() + drawn_heaps():
            told = bisectors(heap)
            self.assertEqual(told, slow_all_lines(heap, []), heap)
            self.assertEqual(bool(told), len(set(heap)) > 1, heap)
            self.assertTrue(all(is_line(line) for line in told))

    def test_of_up_to_eighteen_points(self):
        draw = random.Random(12)
        for many in range(8, 19):
            heap = drawn_heap(draw, many, 6)
            self.assertEqual(bisectors(heap), slow_all_lines(heap, []))

    def test_told_lists_are_the_askers_own(self):
        heap = [(0, 0), (2, 1)]
        bisectors(heap).append((1, 0, 0))
        self.assertEqual(bisectors(heap), [(1, -2, 0)])


class Names(unittest.TestCase):
    def test_arguments_by_name(self):
        self.assertEqual(middle(normal=(1, 0), heap=[(7, 9)]), (7, 7))
        self.assertEqual(slopes(heap=[(0, 0), (2, 1)]), [(1, -2)])
        self.assertEqual(rank(normal=(1, 0), heap=[(7, 9)]), [[(7, 9)]])
        self.assertEqual(bisectors(heap=[(0, 0), (2, 1)]), [(1, -2, 0)])

    def test_the_heaps_stay_as_they_were(self):
        for heap in drawn_heaps()[4:]:
            before = list(heap)
            middle(heap, (1, 0))
            slopes(heap)
            rank(heap, (3, -2))
            bisectors(heap)
            self.assertEqual(heap, before)


if __name__ == "__main__":
    unittest.main()

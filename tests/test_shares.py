import unittest
from itertools import combinations, product
from random import Random

from halveline.errors import LineError, NoShare
from halveline.pairs import halving
from halveline.shares import parting
from things import BIG, drawn_heap, grid, odd_things, slow_line, small_heaps

NO_NUMBERS = [thing for thing in odd_things() if type(thing) is not int]


def slow_parts(line, arrow, heap, k):
    """Whether a line parts a heap at k by an arrow, reckoned apart from the program."""
    height = line[2] if arrow == line[:2] else -line[2]
    heights = [arrow[0] * x + arrow[1] * y for x, y in heap]
    lesser = len([t for t in heights if t < height])
    greater = len([t for t in heights if t > height])
    return lesser <= k and greater <= len(heap) - k


def slow_partings(one, k, other, m):
    """All pairs of an arrow and a line that are in a parting."""
    lines = {slow_line(*pair) for pair in combinations(set(one + other), 2)}
    pairs = {(arrow, (a, b, c)) for a, b, c in lines for arrow in ((a, b), (-a, -b))}
    return {(arrow, line) for arrow, line in pairs
            if slow_parts(line, arrow, one, k) and slow_parts(line, arrow, other, m)}


class Parting(unittest.TestCase):
    def check(self, one, k, other, m):
        before = (list(one), list(other))
        told = parting(one, k, other, m)
        self.assertEqual((one, other), before)
        self.assertEqual(parting(one, k, other, m), told)
        due = slow_partings(one, k, other, m)
        if not due:
            self.assertIsNone(told, (one, k, other, m))
            return False
        self.assertEqual([type(part) for part in told], [tuple] * 4)
        self.assertIs(type(told), tuple)
        arrow, line, first, second = told
        self.assertIn((arrow, line), due)
        self.assertNotEqual(first, second)
        for point in (first, second):
            self.assertIn(point, one + other)
            self.assertEqual(line[0] * point[0] + line[1] * point[1], line[2])
        return True

    def check_all(self, one, other):
        shares = product(range(len(one) + 1), range(len(other) + 1))
        return [self.check(one, k, other, m) for k, m in shares]

    def test_small_heaps_each_beside_each_at_all_numbers(self):
        found = []
        for one, other in product(small_heaps()[:10] + small_heaps()[-2:], repeat=2):
            found += self.check_all(one, other)
        self.assertGreater(found.count(True), 500)
        self.assertGreater(found.count(False), 100)

    def test_drawn_heaps_at_all_numbers(self):
        draw = Random(91)
        for reach in (1, 2, 8, BIG):
            for k in range(8):
                self.check_all(drawn_heap(draw, draw.randint(0, 6), reach), drawn_heap(draw, draw.randint(0, 6), reach))

    def test_up_to_twenty_points(self):
        draw = Random(92)
        for reach in (3, 100, BIG):
            for many, more in ((20, 20), (19, 20), (20, 1), (20, 0)):
                one, other = drawn_heap(draw, many, reach), drawn_heap(draw, more, reach)
                for k, m in ((0, 0), (many, more), (0, more), (many, 0), (3, more // 2), (many // 2, more // 2)):
                    self.check(one, k, other, m)

    def test_none_where_no_line_makes_the_parts(self):
        # Alike heaps are parted alike; and of nested ones the inner one is not parted without the outer one.
        ring = [(0, 9), (9, 0), (0, -9), (-9, 0), (7, 7), (-7, 7), (7, -7), (-7, -7)]
        self.assertIsNone(parting(ring, 0, [(0, 0), (1, 0), (0, 1)], 1))
        self.assertIsNone(parting(ring, 8, [(0, 0), (1, 0), (0, 1)], 2))
        self.assertIsNone(parting([(0, 0), (5, 1), (2, 7), (9, 9)], 4, [(0, 0), (5, 1), (2, 7), (9, 9)], 0))
        self.assertIsNotNone(parting(ring, 4, [(0, 0), (1, 0), (0, 1)], 1))

    def test_the_arrow_tells_the_lesser_side(self):
        heap = [(0, 0), (4, 1), (2, 5)]
        for m, way in ((0, 1), (3, -1)):
            for arrow, line, first, second in (parting([], 0, heap, m), parting(heap, m, [], 0)):
                third = [point for point in heap if point not in (first, second)][0]
                heights = [arrow[0] * x + arrow[1] * y for x, y in (third, first)]
                self.assertGreater((heights[0] - heights[1]) * way, 0)

    def test_the_middle_of_two_even_heaps_is_there_as_a_halving_is(self):
        draw = Random(93)
        for k in range(30):
            one, other = drawn_heap(draw, 6, 4), drawn_heap(draw, 4, 4)
            self.assertTrue(self.check(one, 3, other, 2))
            self.assertIsNotNone(halving(one, other))

    def test_without_points_and_with_one_place(self):
        self.assertIsNone(parting([], 0, [], 0))
        for k in range(4):
            self.assertIsNone(parting([(2, 3)] * 3, k, [], 0))
            self.assertIsNone(parting([], 0, [(2, 3)] * 3, k))
            self.assertIsNone(parting([(2, 3)] * 3, k, [(2, 3)] * 3, 3 - k))
        self.assertIsNotNone(parting([(2, 3)], 0, [(0, 0)], 0))

    def test_refusals(self):
        heaps = ([], [(1, 2)], [(0, 0), (3, 1), (3, 1)], [(x, y) for x, y in grid(1)])
        for one, other in product(heaps, repeat=2):
            for wrong in NO_NUMBERS + [-1, -10 ** 40, 10 ** 40]:
                for k, m in ((wrong, 0), (0, wrong), (wrong, wrong)):
                    with self.assertRaises(NoShare):
                        parting(one, k, other, m)
            for k, m in ((len(one) + 1, 0), (0, len(other) + 1), (len(one) + 1, len(other) + 1)):
                with self.assertRaises(NoShare):
                    parting(one, k, other, m)
            parting(one, len(one), other, len(other))
        self.assertTrue(issubclass(NoShare, LineError))

    def test_arguments_by_name(self):
        one, other = [(0, 0), (4, 1)], [(2, 5), (7, 7), (1, 1)]
        self.assertEqual(parting(m=2, other=other, k=1, one=one), parting(one, 1, other, 2))


if __name__ == "__main__":
    unittest.main()

import unittest
from itertools import product
from random import Random

from halveline.errors import LineError, NoRows, NoShare
from halveline.lines import is_line
from halveline.tworows import row_line
from things import BIG, odd_things, slow_line

NO_NUMBERS = [thing for thing in odd_things() if type(thing) is not int]


def row(height, numbers):
    return [(x, height) for x in numbers]


def drawn_rows(draw, many, more, reach):
    """Two heaps in two rows, of so many points, as a random.Random draws them."""
    return [row(y, [draw.randint(-reach, reach) for k in range(count)]) for y, count in ((0, many), (1, more))]


class RowLine(unittest.TestCase):
    def check(self, one, k, other, m):
        before = (list(one), list(other))
        told = row_line(one, k, other, m)
        self.assertEqual((one, other), before)
        self.assertEqual(row_line(one, k, other, m), told)
        self.assertTrue(is_line(told))
        first, second = sorted(one)[k - 1], sorted(other)[m - 1]
        self.assertEqual(told, slow_line(first, second))
        for (x, y), heap, share in ((first, one, k), (second, other, m)):
            self.assertLessEqual(len([place for place, height in heap if place < x]), share - 1)
            self.assertLessEqual(len([place for place, height in heap if place > x]), len(heap) - share)

    def test_all_numbers_of_drawn_rows(self):
        draw = Random(94)
        for reach in (1, 3, 1000, BIG):
            for many, more in ((1, 1), (1, 6), (5, 2), (7, 7), (20, 20), (20, 1)):
                one, other = drawn_rows(draw, many, more, reach)
                for k, m in product(range(1, many + 1), range(1, more + 1)):
                    self.check(one, k, other, m)

    def test_known_ones(self):
        one, other = row(0, (5, -3, 8)), row(1, (7, 7, -2, 0))
        self.assertEqual(row_line(one, 1, other, 1), (1, -1, -3))
        self.assertEqual(row_line(one, 2, other, 4), (1, -2, 5))
        self.assertEqual(row_line(one, 3, other, 2), (1, 8, 8))
        self.assertEqual(row_line(one, 2, other, 3), row_line(one, 2, other, 4))
        self.assertEqual(row_line(row(0, (4,)), 1, row(1, (4,)), 1), (1, 0, 4))
        self.assertEqual(row_line(row(0, (-BIG,)), 1, row(1, (BIG,)), 1), (1, -2 * BIG, -BIG))

    def test_no_other_line_with_a_point_of_each_does_so(self):
        draw = Random(95)
        for k in range(20):
            one, other = (row(y, draw.sample(range(-30, 30), 5)) for y in (0, 1))
            for g, h in product(range(1, 6), repeat=2):
                so = [
                    slow_line(first, second) for first, second in product(one, other)
                    if all(len([t for t in heap if t < point]) <= share - 1 and len([t for t in heap if t > point]) <= 5 - share
                           for point, heap, share in ((first, one, g), (second, other, h)))
                ]
                self.assertEqual([row_line(one, g, other, h)], so)

    def refused(self, error, one, k, other, m):
        before = (list(one), list(other))
        with self.assertRaises(error):
            row_line(one, k, other, m)
        self.assertEqual((one, other), before)

    def test_a_point_in_another_row(self):
        good, beside = row(0, (1, 2, 3)), row(1, (1, 2, 3))
        for wrong in ((2, 1), (2, -1), (2, 7), (0, 1), (2, BIG)):
            for at in range(4):
                self.refused(NoRows, good[:at] + [wrong] + good[at:], 1, beside, 1)
        for wrong in ((2, 0), (2, 2), (2, -1), (1, 0), (2, BIG)):
            for at in range(4):
                self.refused(NoRows, good, 1, beside[:at] + [wrong] + beside[at:], 1)
        self.refused(NoRows, beside, 1, good, 1)
        self.refused(NoRows, beside, 1, beside, 1)
        self.refused(NoRows, good, 1, good, 1)
        self.refused(NoRows, beside, 1, [], 1)
        self.refused(NoRows, [], 1, good, 1)

    def test_no_rows_goes_ahead_of_no_share(self):
        for wrong in NO_NUMBERS + [0, -1, 4, 10 ** 40]:
            for one, other in (([(0, 1)], [(0, 1)]), ([(0, 0)], [(0, 0)]), ([(5, 5)], []), ([], [(5, 5)])):
                self.refused(NoRows, one, wrong, other, 1)
                self.refused(NoRows, one, 1, other, wrong)
                self.refused(NoRows, one, wrong, other, wrong)

    def test_no_share(self):
        one, other = row(0, (1, 5, 5)), row(1, (4, 4))
        for wrong in NO_NUMBERS + [0, -1, -10 ** 40, 10 ** 40]:
            self.refused(NoShare, one, wrong, other, 1)
            self.refused(NoShare, one, 1, other, wrong)
            self.refused(NoShare, one, wrong, other, wrong)
            self.refused(NoShare, [], wrong, [], wrong)
        self.refused(NoShare, one, 4, other, 1)
        self.refused(NoShare, one, 1, other, 3)
        self.assertEqual(row_line(one, 3, other, 2), slow_line((5, 0), (4, 1)))

    def test_heaps_without_points(self):
        one, other = row(0, (1, 5)), row(1, (4,))
        for k in (0, 1, 2):
            self.refused(NoShare, [], k, other, 1)
            self.refused(NoShare, one, 1, [], k)
            self.refused(NoShare, [], k, [], k)

    def test_arguments_by_name(self):
        one, other = row(0, (1, 5, 6)), row(1, (4, 3))
        self.assertEqual(row_line(m=2, other=other, k=3, one=one), (1, 2, 6))
        self.assertTrue(issubclass(NoRows, LineError) and issubclass(NoShare, LineError))


if __name__ == "__main__":
    unittest.main()

import unittest
from itertools import combinations, permutations, product
from math import gcd

from halveline.normals import between, is_ahead, is_normal, lines_in_order, value
from things import BIG, grid, odd_things, slow_order


def small_normals(reach):
    """All normals with numbers from -reach to reach."""
    return [(a, b) for a, b in grid(reach) if gcd(a, b) == 1 and (a > 0 or (a, b) == (0, 1))]


class Normals(unittest.TestCase):
    def test_small_numbers_all_told(self):
        for a, b in grid(12):
            told = gcd(a, b) == 1 and (a > 0 or (a, b) == (0, 1))
            self.assertIs(is_normal((a, b)), told, (a, b))

    def test_long_numbers(self):
        for normal in ((BIG, BIG - 1), (BIG, 1 - BIG), (1, BIG), (1, -BIG), (BIG, 1), (10 ** 31 + 1, 10 ** 31)):
            self.assertIs(is_normal(normal), True)
        for wrong in ((-BIG, 1), (BIG, BIG), (BIG, -BIG), (0, BIG), (BIG, 0), (2 * BIG, 2), (-1, BIG)):
            self.assertIs(is_normal(wrong), False)
        prime = 2 ** 61 - 1
        self.assertIs(is_normal((prime * 10 ** 10, prime * (10 ** 10 + 1))), False)

    def test_other_things_are_no_normals(self):
        others = [
            [1, 0], (1, 0, 0), (1,), (), ((1, 0),), (True, 0), (1, False), (0, True), (1, True), (True, 2),
            ("1", "0"), (1, "0"), (None, 1), (1, None), ((1,), 0), {1: 0}, "10", b"10", range(1, 3),
        ]
        for thing in odd_things() + others:
            with self.subTest(thing=thing):
                self.assertIs(is_normal(thing), False)


class Values(unittest.TestCase):
    def test_as_the_sum_says(self):
        self.assertEqual(value((1, 0), (7, 9)), 7)
        self.assertEqual(value((0, 1), (7, 9)), 9)
        self.assertEqual(value((3, -2), (5, 4)), 7)
        for (a, b), (x, y) in product(small_normals(3), grid(2)):
            self.assertEqual(value((a, b), (x, y)), a * x + b * y)

    def test_thirty_figures_are_told_exactly(self):
        self.assertEqual(value((BIG, 1 - BIG), (BIG, BIG)), BIG)
        self.assertEqual(value((BIG, 1 - BIG), (BIG - 1, BIG)), 0)
        self.assertEqual(value((1, BIG), (-BIG, -BIG)), -BIG - BIG * BIG)


class Order(unittest.TestCase):
    def test_ahead_both_ways_about(self):
        self.assertIs(is_ahead((1, 0), (0, 1)), True)
        self.assertIs(is_ahead((0, 1), (1, 0)), False)
        self.assertIs(is_ahead((1, -1), (1, 1)), True)
        self.assertIs(is_ahead((1, 1), (1, -1)), False)
        self.assertIs(is_ahead((2, 1), (1, 1)), True)
        self.assertIs(is_ahead((1, 1), (2, 1)), False)
        self.assertIs(is_ahead((1, -BIG), (1, 1 - BIG)), True)

    def test_of_two_unlike_ones_just_one_is_ahead(self):
        for (a, b), (c, d) in permutations(small_normals(5), 2):
            self.assertIs(is_ahead((a, b), (c, d)), a * d - b * c > 0)
            self.assertIs(is_ahead((c, d), (a, b)), not is_ahead((a, b), (c, d)))

    def test_one_and_the_same(self):
        for normal in small_normals(4) + [(BIG, 1 - BIG)]:
            self.assertIs(is_ahead(normal, normal), False)
            self.assertIs(is_ahead(normal, (normal[0], normal[1])), False)

    def test_the_upright_one_is_behind_all_others(self):
        for normal in small_normals(5) + [(1, BIG), (1, -BIG), (BIG, 1)]:
            if normal != (0, 1):
                self.assertIs(is_ahead(normal, (0, 1)), True)
                self.assertIs(is_ahead((0, 1), normal), False)

    def test_neighbours_of_thirty_figures(self):
        one, other = (BIG, BIG - 1), (BIG - 1, BIG - 2)
        self.assertIs(is_ahead(other, one), True)
        self.assertIs(is_ahead(one, other), False)

    def test_lines_in_order(self):
        lines = [(a, b, c) for a, b in small_normals(4) for c in (2, -3, 0)]
        lines += [(a, b, 5) for a, b in ((BIG, BIG - 1), (BIG - 1, BIG - 2), (1, BIG), (1, -BIG), (BIG, 1 - BIG))]
        self.assertEqual(lines_in_order(lines), slow_order(lines))
        self.assertEqual(lines_in_order(lines[::-1]), slow_order(lines))
        self.assertEqual(lines_in_order([(0, 1, 4), (0, 1, -4)]), [(0, 1, -4), (0, 1, 4)])
        self.assertEqual(lines_in_order([]), [])


class Between(unittest.TestCase):
    def test_without_a_common_divisor(self):
        self.assertEqual(between((1, 0), (0, 1)), (1, 1))
        self.assertEqual(between((1, 0), (1, 1)), (2, 1))
        self.assertEqual(between((1, -1), (1, 0)), (2, -1))

    def test_with_a_common_divisor(self):
        self.assertEqual(between((1, -1), (1, 1)), (1, 0))
        self.assertEqual(between((1, -2), (3, 4)), (2, 1))
        self.assertEqual(between((1, -5), (0, 1)), (1, -4))
        self.assertEqual(between((5, -1), (1, 4)), (2, 1))

    def test_it_is_a_normal_between(self):
        for one, other in combinations(slow_order(small_normals(5)), 2):
            told = between(one, other)
            self.assertIs(is_normal(told), True)
            self.assertIs(is_ahead(one, told) and is_ahead(told, other), True)
            self.assertEqual(told[0] * (one[1] + other[1]), told[1] * (one[0] + other[0]))

    def test_thirty_figures(self):
        self.assertEqual(between((1, -BIG), (1, BIG)), (1, 0))
        self.assertEqual(between((BIG, -1), (1, BIG)), ((BIG + 1) // 2, (BIG - 1) // 2))
        self.assertEqual(between((BIG - 1, BIG - 2), (BIG, BIG - 1)), (2 * BIG - 1, 2 * BIG - 3))


class Names(unittest.TestCase):
    def test_arguments_by_name(self):
        self.assertIs(is_normal(thing=(1, 0)), True)
        self.assertEqual(value(point=(7, 9), normal=(1, 0)), 7)
        self.assertIs(is_ahead(other=(0, 1), one=(1, 0)), True)
        self.assertEqual(between(other=(0, 1), one=(1, 0)), (1, 1))

    def test_told_are_tuples_and_whole_numbers(self):
        self.assertIs(type(between((1, 0), (0, 1))), tuple)
        self.assertIs(type(value((1, 0), (0, 0))), int)


if __name__ == "__main__":
    unittest.main()

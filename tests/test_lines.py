import unittest
from itertools import permutations, product
from math import gcd

from halveline.errors import LineError, NoLine
from halveline.lines import counts, halves, is_line, side, through
from things import BIG, grid, odd_things


class Lines(unittest.TestCase):
    def test_lines(self):
        lines = [
            (1, 0, 0), (0, 1, 0), (1, 0, -5), (0, 1, 7), (1, 1, 0), (1, -1, 3), (1, -2, 3), (2, 3, 4), (4, -9, 6),
            (1, 8, 8), (6, 35, 2), (6, -35, 0), (BIG, 1, BIG), (1, -BIG, -BIG), (BIG, BIG - 1, 10 ** 91),
        ]
        for line in lines:
            with self.subTest(line=line):
                self.assertIs(is_line(line), True)

    def test_no_line_for_its_first_two_numbers(self):
        wrongs = [
            (0, 0), (-1, 0), (-1, 1), (-1, -1), (-2, 3), (0, -1), (0, 2), (0, -2), (0, BIG), (2, 0), (5, 0),
            (2, 2), (2, -4), (6, 9), (35, -14), (BIG, BIG), (BIG, -BIG), (2 * BIG, 2), (-BIG, 1),
        ]
        for (a, b), c in product(wrongs, (-3, 0, 1, 4)):
            with self.subTest(a=a, b=b, c=c):
                self.assertIs(is_line((a, b, c)), False)

    def test_small_numbers_all_told(self):
        for a, b, c in product(range(-6, 7), range(-12, 13), (0, 6)):
            told = gcd(a, b) == 1 and (a > 0 or (a, b) == (0, 1))
            self.assertIs(is_line((a, b, c)), told, (a, b, c))

    def test_long_numbers_are_told_by_dividing_with_rest(self):
        # Two neighbours of this row take the most divisions of all numbers of their length.
        less, more = 1, 1
        while more < 10 ** 91:
            less, more = more, less + more
        self.assertIs(is_line((more, -less, 0)), True)
        prime = 2 ** 127 - 1
        self.assertIs(is_line((prime * (2 ** 89 - 1), prime * (2 ** 107 - 1), 1)), False)

    def test_other_things_are_no_lines(self):
        others = [
            [1, 0, 0], (1, 0), (1, 0, 0, 0), ((1, 0, 0),), (True, 0, 0), (1, False, 0), (1, 0, False), (0, True, 0),
            (1, 0, True), (1, 0, None), (1, None, 0), (None, 1, 0), ("1", "0", "0"), (1, 0, "0"), (1, 0, (0,)),
        ]
        for thing in odd_things() + others:
            with self.subTest(thing=thing):
                self.assertIs(is_line(thing), False)


class Through(unittest.TestCase):
    def check_both_ways(self, one, other, told):
        self.assertEqual(through(one, other), told)
        self.assertEqual(through(other, one), told)
        self.assertIsInstance(through(one, other), tuple)

    def test_level_and_upright(self):
        self.check_both_ways((0, 0), (5, 0), (0, 1, 0))
        self.check_both_ways((-3, 4), (8, 4), (0, 1, 4))
        self.check_both_ways((2, -7), (-2, -7), (0, 1, -7))
        self.check_both_ways((0, 0), (0, 5), (1, 0, 0))
        self.check_both_ways((4, -3), (4, 8), (1, 0, 4))
        self.check_both_ways((-7, 2), (-7, -2), (1, 0, -7))

    def test_aslant(self):
        self.check_both_ways((0, 0), (1, 1), (1, -1, 0))
        self.check_both_ways((0, 0), (1, -1), (1, 1, 0))
        self.check_both_ways((0, 0), (4, 2), (1, -2, 0))
        self.check_both_ways((3, 0), (5, 1), (1, -2, 3))
        self.check_both_ways((-2, 5), (4, -4), (3, 2, 4))
        self.check_both_ways((-6, -9), (9, 1), (2, -3, 15))

    def test_thirty_figures(self):
        self.check_both_ways((-BIG, BIG), (BIG, -BIG), (1, 1, 0))
        self.check_both_ways((-BIG, -BIG), (BIG, BIG), (1, -1, 0))
        self.check_both_ways((BIG, -BIG), (BIG, BIG), (1, 0, BIG))
        self.check_both_ways((BIG, -BIG), (-BIG, -BIG), (0, 1, -BIG))
        self.check_both_ways((0, 0), (BIG, BIG - 1), (BIG - 1, -BIG, 0))
        self.check_both_ways((BIG, 0), (0, BIG - 1), (BIG - 1, BIG, BIG * (BIG - 1)))

    def test_told_is_a_line_and_both_points_are_on_it(self):
        for one, other in permutations(grid(3), 2):
            line = through(one, other)
            self.assertTrue(is_line(line), (one, other))
            self.assertEqual((side(line, one), side(line, other)), (0, 0), (one, other))
            self.assertEqual(through(other, one), line)

    def test_alike_points_are_refused(self):
        for point in grid(1) + [(BIG, -BIG)]:
            with self.assertRaises(NoLine):
                through(point, (point[0], point[1]))
        with self.assertRaises(LineError):
            through((1, 2), (1, 2))


class Sides(unittest.TestCase):
    def test_above_on_below(self):
        self.assertEqual([side((1, 0, 2), point) for point in ((3, 0), (2, 9), (1, 0))], [1, 0, -1])
        self.assertEqual([side((0, 1, 2), point) for point in ((0, 3), (9, 2), (0, 1))], [1, 0, -1])
        self.assertEqual([side((1, -2, 3), point) for point in ((4, 0), (3, 0), (3, 1))], [1, 0, -1])
        self.assertEqual([side((2, 3, -4), point) for point in ((0, -1), (-2, 0), (0, -2))], [1, 0, -1])

    def test_as_the_sum_says(self):
        for line, (x, y) in product(((1, -2, 3), (3, 2, -1), (0, 1, 1), (1, 0, -1)), grid(3)):
            a, b, c = line
            less = a * x + b * y
            self.assertEqual(side(line, (x, y)), 1 if less > c else 0 if less == c else -1)

    def test_thirty_figures_are_told_exactly(self):
        line = through((0, 0), (BIG, BIG - 1))
        self.assertEqual(side(line, (BIG, BIG - 1)), 0)
        self.assertEqual(side(line, (BIG - 1, BIG - 2)), 1)
        self.assertEqual(side(line, (1 - BIG, 2 - BIG)), -1)
        self.assertEqual([side((1, 1, c), (BIG, BIG)) for c in (2 * BIG - 1, 2 * BIG, 2 * BIG + 1)], [1, 0, -1])

    def test_the_answer_is_a_whole_number(self):
        for x in (-1, 0, 1):
            self.assertIs(type(side((1, 0, 0), (x, 0))), int)


class Counts(unittest.TestCase):
    def test_below_on_above_in_this_order(self):
        heap = [(0, 0), (5, 0), (2, 7), (9, 9), (2, -7), (3, 1)]
        told = counts((1, 0, 2), heap)
        self.assertEqual(told, (1, 2, 3))
        self.assertIsInstance(told, tuple)

    def test_alike_points_count_as_often_as_they_stand(self):
        heap = [(0, 0)] * 4 + [(1, 1)] * 3 + [(2, 2), (0, 0)]
        self.assertEqual(counts((1, 0, 1), heap), (5, 3, 1))
        self.assertEqual(counts((1, -1, 0), heap), (0, 9, 0))

    def test_no_points(self):
        for line in ((1, 0, 0), (0, 1, -4), (1, -2, 3)):
            self.assertEqual(counts(line, []), (0, 0, 0))
            self.assertIs(halves(line, []), True)


class Halves(unittest.TestCase):
    def test_every_small_share_on_two_lines(self):
        for below, on, above in product(range(6), repeat=3):
            many = below + on + above
            told = 2 * below <= many and 2 * above <= many
            upright = [(-1, k) for k in range(below)] + [(0, k) for k in range(on)] + [(1, k) for k in range(above)]
            self.assertEqual(counts((1, 0, 0), upright), (below, on, above))
            self.assertIs(halves((1, 0, 0), upright), told, (below, on, above))
            alike = [(5, 0)] * above + [(3, 0)] * on + [(2, 0)] * below
            self.assertEqual(counts((1, -2, 3), alike), (below, on, above))
            self.assertIs(halves((1, -2, 3), alike), told, (below, on, above))

    def test_an_even_number(self):
        heap = [(0, 0), (1, 0), (2, 0), (3, 0)]
        told = {0: False, 1: True, 2: True, 3: False}
        self.assertEqual({c: halves((1, 0, c), heap) for c in told}, told)
        spread = [(2 * x, y) for x, y in heap]
        told = {1: False, 2: True, 3: True, 4: True, 5: False}
        self.assertEqual({c: halves((1, 0, c), spread) for c in told}, told)

    def test_an_odd_number(self):
        heap = [(0, 0), (2, 0), (4, 0)]
        told = {-1: False, 0: False, 1: False, 2: True, 3: False, 4: False, 5: False}
        self.assertEqual({c: halves((1, 0, c), heap) for c in told}, told)

    def test_one_point(self):
        told = {6: False, 7: True, 8: False}
        self.assertEqual({c: halves((0, 1, c), [(3, 7)]) for c in told}, told)

    def test_alike_points_weigh_as_often_as_they_stand(self):
        self.assertIs(halves((1, 0, 1), [(0, 0), (1, 0), (2, 0)]), True)
        self.assertIs(halves((1, 0, 1), [(0, 0), (0, 0), (1, 0), (2, 0)]), True)
        self.assertIs(halves((1, 0, 1), [(0, 0), (0, 0), (0, 0), (1, 0), (2, 0)]), False)
        self.assertIs(halves((1, 0, 1), [(0, 0), (1, 0), (2, 0), (2, 0), (2, 0)]), False)

    def test_the_heap_stays_as_it_was(self):
        heap = [(3, 1), (0, 0), (3, 1), (-2, 5)]
        counts((1, 0, 0), heap)
        halves((1, 0, 0), heap)
        self.assertEqual(heap, [(3, 1), (0, 0), (3, 1), (-2, 5)])


class Names(unittest.TestCase):
    def test_arguments_by_name(self):
        self.assertIs(is_line(thing=(1, 0, 0)), True)
        self.assertEqual(through(other=(5, 1), one=(3, 0)), (1, -2, 3))
        self.assertEqual(side(point=(4, 0), line=(1, -2, 3)), 1)
        self.assertEqual(counts(heap=[(4, 0), (3, 0)], line=(1, -2, 3)), (0, 1, 1))
        self.assertIs(halves(heap=[(4, 0), (3, 0)], line=(1, -2, 3)), True)

    def test_asked_again_the_same_is_told(self):
        heap = [(4, 0), (3, 0), (0, 0)]
        for asked in (through, lambda one, other: counts(through(one, other), heap)):
            self.assertEqual(asked((3, 0), (5, 1)), asked((3, 0), (5, 1)))
        self.assertEqual([halves((1, -2, 3), heap) for k in range(3)], [True] * 3)


if __name__ == "__main__":
    unittest.main()

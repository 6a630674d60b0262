import unittest
from itertools import permutations, product
from random import Random

from halveline.errors import LineError, NoFlat
from halveline.space import flat_counts, flat_halves, flat_side, flat_through
from things import BIG, drawn_cloud, is_flat, slow_flat_halves

CUBE = list(product((-1, 0, 1), repeat=3))


class Through(unittest.TestCase):
    def check_each_order(self, spots, told):
        self.assertTrue(is_flat(told))
        for one, two, three in permutations(spots):
            self.assertEqual(flat_through(one, two, three), told, (one, two, three))

    def test_with_noughts(self):
        self.check_each_order([(0, 0, 0), (1, 0, 0), (0, 1, 0)], (0, 0, 1, 0))
        self.check_each_order([(0, 0, 5), (1, 0, 5), (0, 1, 5)], (0, 0, 1, 5))
        self.check_each_order([(0, -2, 0), (1, -2, 0), (0, -2, 1)], (0, 1, 0, -2))
        self.check_each_order([(7, 0, 0), (7, 1, 0), (7, 0, 1)], (1, 0, 0, 7))
        self.check_each_order([(0, 1, 0), (0, 0, 1), (5, 1, 0)], (0, 1, 1, 1))
        self.check_each_order([(0, 1, 0), (0, 0, -1), (5, 1, 0)], (0, 1, -1, 1))
        self.check_each_order([(1, 0, 0), (0, 0, 1), (1, 5, 0)], (1, 0, 1, 1))
        self.check_each_order([(1, 0, 0), (0, -1, 0), (1, 0, 5)], (1, -1, 0, 1))

    def test_aslant_and_with_a_common_divisor(self):
        self.check_each_order([(1, 0, 0), (0, 1, 0), (0, 0, 1)], (1, 1, 1, 1))
        self.check_each_order([(4, 0, 0), (0, 4, 0), (0, 0, 4)], (1, 1, 1, 4))
        self.check_each_order([(6, 0, 0), (0, 3, 0), (0, 0, 2)], (1, 2, 3, 6))
        self.check_each_order([(-6, 0, 0), (0, 3, 0), (0, 0, 2)], (1, -2, -3, -6))
        self.check_each_order([(15, 0, 0), (0, 10, 0), (0, 0, 6)], (2, 3, 5, 30))

    def test_thirty_figures(self):
        self.check_each_order([(BIG, 0, 0), (0, BIG, 0), (0, 0, BIG)], (1, 1, 1, BIG))
        self.check_each_order([(-BIG, BIG, 0), (BIG, BIG, BIG), (BIG, BIG, -BIG)], (0, 1, 0, BIG))
        self.check_each_order([(0, 0, 0), (BIG, 1, 0), (0, 1, BIG)], (1, -BIG, 1, 0))
        draw = Random(51)
        for k in range(20):
            one, two, three = drawn_cloud(draw, 3, BIG)
            told = flat_through(one, two, three)
            self.check_each_order([one, two, three], told)
            a, b, c, d = told
            self.assertEqual([a * x + b * y + c * z for x, y, z in (one, two, three)], [d] * 3)

    def test_told_is_a_flat_and_the_spots_are_on_it_or_they_lie_on_one_line(self):
        for two, three in product(CUBE, repeat=2):
            one = (2, -1, 3)
            spots = [one, tuple(map(sum, zip(one, two))), tuple(map(sum, zip(one, three)))]
            if any(self.stretched(two, three, k) for k in (-1, 0, 1)) or two == (0, 0, 0):
                with self.assertRaises(NoFlat):
                    flat_through(*spots)
            else:
                told = flat_through(*spots)
                self.assertTrue(is_flat(told))
                self.assertEqual([flat_side(told, spot) for spot in spots], [0, 0, 0])

    def stretched(self, two, three, k):
        return three == tuple(k * part for part in two)

    def test_on_one_line_and_alike(self):
        lines = [
            [(0, 0, 0), (1, 2, 3), (2, 4, 6)], [(1, 1, 1), (5, 1, 1), (-3, 1, 1)], [(1, 1, 1), (1, 9, 1), (1, 0, 1)],
            [(1, 1, 1), (1, 1, 4), (1, 1, 0)], [(0, 0, 0), (0, 0, 0), (1, 2, 3)], [(4, 4, 4)] * 3,
            [(BIG, -BIG, BIG), (0, 0, 0), (-BIG, BIG, -BIG)], [(BIG, BIG, BIG), (BIG, BIG, BIG), (0, 0, 1)],
        ]
        for spots in lines:
            for one, two, three in permutations(spots):
                with self.assertRaises(NoFlat):
                    flat_through(one, two, three)
        with self.assertRaises(LineError):
            flat_through((0, 0, 0), (1, 1, 1), (2, 2, 2))

    def test_just_beside_one_line(self):
        self.assertTrue(is_flat(flat_through((-BIG, -BIG, -BIG), (0, 0, 0), (BIG, BIG, BIG - 1))))


class Sides(unittest.TestCase):
    def test_above_on_below(self):
        self.assertEqual([flat_side((1, 0, 0, 2), (x, 9, -9)) for x in (3, 2, 1)], [1, 0, -1])
        self.assertEqual([flat_side((0, 1, 0, 2), (9, y, -9)) for y in (3, 2, 1)], [1, 0, -1])
        self.assertEqual([flat_side((0, 0, 1, -2), (9, -9, z)) for z in (-1, -2, -3)], [1, 0, -1])

    def test_as_the_sum_says(self):
        for flat, (x, y, z) in product(((1, -2, 3, 1), (2, 0, -3, 0), (0, 1, 1, -1)), CUBE):
            a, b, c, d = flat
            less = a * x + b * y + c * z
            self.assertEqual(flat_side(flat, (x, y, z)), 1 if less > d else 0 if less == d else -1)

    def test_thirty_figures_are_told_exactly(self):
        flat = (BIG, 1, -BIG, 0)
        self.assertEqual([flat_side(flat, (BIG, y, BIG)) for y in (1, 0, -1)], [1, 0, -1])


class CountsAndHalves(unittest.TestCase):
    def test_below_on_above_in_this_order(self):
        cloud = [(0, 0, 0), (5, 0, 1), (2, 7, 1), (9, 9, 9), (2, -7, 0), (3, 1, 1)]
        told = flat_counts((1, 0, 0, 2), cloud)
        self.assertEqual(told, (1, 2, 3))
        self.assertIs(type(told), tuple)

    def test_without_spots(self):
        for flat in ((1, 0, 0, 0), (0, 0, 1, -4), (1, -2, 3, 4)):
            self.assertEqual(flat_counts(flat, []), (0, 0, 0))
            self.assertIs(flat_halves(flat, []), True)

    def test_every_small_share_with_alike_spots(self):
        for below, on, above in product(range(5), repeat=3):
            cloud = [(9, 0, 0)] * above + [(0, 0, 4)] * on + [(0, 1, 1)] * below
            before = list(cloud)
            many = below + on + above
            self.assertEqual(flat_counts((1, 0, 1, 4), cloud), (below, on, above))
            self.assertIs(flat_halves((1, 0, 1, 4), cloud), 2 * below <= many and 2 * above <= many)
            self.assertEqual(cloud, before)

    def test_drawn_clouds(self):
        draw = Random(52)
        seen = set()
        for k in range(60):
            cloud = drawn_cloud(draw, draw.randint(3, 8), 2) + [(1, 1, 1)] * draw.randint(0, 3)
            for flat in ((1, -1, 0, 0), (0, 1, 1, 1), (2, 1, -3, 0)):
                told = flat_halves(flat, cloud)
                self.assertIs(told, slow_flat_halves(flat, cloud))
                seen.add(told)
        self.assertEqual(seen, {True, False})


class Names(unittest.TestCase):
    def test_arguments_by_name(self):
        self.assertEqual(flat_through(three=(0, 0, 1), one=(1, 0, 0), two=(0, 1, 0)), (1, 1, 1, 1))
        self.assertEqual(flat_side(spot=(3, 0, 0), flat=(1, 0, 0, 2)), 1)
        self.assertEqual(flat_counts(cloud=[(3, 0, 0)], flat=(1, 0, 0, 2)), (0, 0, 1))
        self.assertIs(flat_halves(cloud=[(3, 0, 0)], flat=(1, 0, 0, 2)), False)


if __name__ == "__main__":
    unittest.main()

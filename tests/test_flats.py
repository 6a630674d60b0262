import unittest
from itertools import combinations, permutations, product
from random import Random

from halveline.flats import halving_flat
from things import BIG, drawn_cloud, is_flat, slow_aligned, slow_flat_halves

LINE = [(k, 2 * k, -k) for k in (0, 3, -1, 3)]


class HalvingFlat(unittest.TestCase):
    def check(self, one, two, three):
        before = (list(one), list(two), list(three))
        told = halving_flat(one, two, three)
        self.assertEqual((one, two, three), before)
        self.assertEqual(halving_flat(one, two, three), told)
        both = one + two + three
        if all(slow_aligned(*spots) for spots in combinations(set(both), 3)):
            self.assertIsNone(told)
            return
        self.assertIs(type(told), tuple)
        flat, *spots = told
        self.assertTrue(is_flat(flat))
        a, b, c, d = flat
        self.assertEqual(len(spots), 3)
        for x, y, z in spots:
            self.assertIn((x, y, z), both)
            self.assertEqual(a * x + b * y + c * z, d)
        self.assertFalse(slow_aligned(*spots))
        for cloud in (one, two, three):
            self.assertTrue(slow_flat_halves(flat, cloud), before)

    def test_one_spot_each(self):
        self.assertEqual(halving_flat([(1, 0, 0)], [(0, 1, 0)], [(0, 0, 1)])[0], (1, 1, 1, 1))
        self.check([(6, 0, 0)], [(0, 3, 0)], [(0, 0, 2)])

    def test_none_just_where_all_lie_on_one_line(self):
        spot = (1, 2, -1)
        for clouds in ([[], [], []], [[spot], [], []], [[spot] * 3, [spot], [spot]], [[spot], [(0, 0, 0)], []],
                       [LINE, [], []], [LINE, LINE[:2], [spot]], [[], [], LINE], [LINE[:1], LINE[1:2], LINE[2:3]]):
            for one, two, three in permutations(clouds):
                self.assertIsNone(halving_flat(one, two, three))
        for clouds in ([LINE, [(1, 1, 1)], []], [[(0, 0, 0)], [(1, 1, 1), (0, 0, 1)], []], [LINE + [(1, 2, 0)], [], []]):
            for one, two, three in permutations(clouds):
                self.assertIsNotNone(halving_flat(one, two, three))
                self.check(one, two, three)

    def test_drawn_clouds(self):
        draw = Random(61)
        for reach in (1, 2, 20, BIG):
            for k in range(40):
                self.check(*(drawn_cloud(draw, draw.randint(0, 5), reach) for j in range(3)))

    def test_without_spots(self):
        draw = Random(62)
        for many, more in product(range(6), repeat=2):
            one, two = drawn_cloud(draw, many, 3), drawn_cloud(draw, more, 3)
            for clouds in ((one, two, []), (one, [], two), ([], one, two)):
                self.check(*clouds)

    def test_all_on_one_flat(self):
        draw = Random(63)
        for k in range(20):
            clouds = [[(x, y, x - 2 * y) for x, y, z in drawn_cloud(draw, 4, 5)] for j in range(3)]
            self.check(*clouds)

    def test_one_heavy_spot(self):
        draw = Random(64)
        for reach in (2, 30, BIG):
            heavy = [drawn_cloud(draw, 3, reach) + drawn_cloud(draw, 1, reach) * 5 for j in range(3)]
            self.check(*heavy)
            self.check(heavy[0], heavy[1], drawn_cloud(draw, 8, reach))
            self.check(heavy[0], heavy[0], heavy[0])
            self.check(heavy[0], heavy[0][3:], heavy[1])

    def test_up_to_eight_spots(self):
        draw = Random(65)
        for reach in (2, 9, 1000, BIG):
            for sizes in ((8, 8, 8), (7, 8, 8), (7, 7, 7), (8, 1, 8), (8, 8, 0)):
                self.check(*(drawn_cloud(draw, many, reach) for many in sizes))

    def test_clouds_that_lie_apart(self):
        draw = Random(66)
        for k in range(10):
            clouds = [
                [(x + g, y + h, z + j) for x, y, z in drawn_cloud(draw, draw.randint(1, 8), 4)]
                for g, h, j in ((50, 0, 0), (0, 50, 0), (0, 0, 50))
            ]
            self.check(*clouds)

    def test_arguments_by_name(self):
        told = halving_flat([(1, 0, 0)], [(0, 1, 0)], [(0, 0, 1)])
        self.assertEqual(halving_flat(three=[(0, 0, 1)], two=[(0, 1, 0)], one=[(1, 0, 0)]), told)


if __name__ == "__main__":
    unittest.main()

import random
import unittest
from itertools import combinations, product
from math import gcd

from halveline.alllines import all_lines, are_plain
from halveline.errors import Empty, LineError
from halveline.lines import is_line
from halveline.narrowing import gap, narrowed, odd_part
from things import BIG, drawn_heap, grid, slow_halves, slow_line, small_heaps

ARROWS = [(a, b) for a, b in grid(3) if gcd(a, b) == 1] + [(BIG, 1 - BIG), (-BIG, 1), (-1, -BIG)]


def slow_middle(heap, arrow):
    """The middle value of a heap with an odd number of points, reckoned apart from the program."""
    return sorted(arrow[0] * x + arrow[1] * y for x, y in heap)[len(heap) // 2]


def left_of(one, other):
    """Whether the second arrow lies to the left of the first, by less than a half-turn."""
    return one[0] * other[1] - one[1] * other[0] > 0


def slope_count(heap):
    """How many unlike normals the lines through two places of a heap have."""
    return len({slow_line(*pair)[:2] for pair in combinations(set(heap), 2)})


class OddPart(unittest.TestCase):
    def test_even_numbers_lose_the_last_point(self):
        self.assertEqual(odd_part([(1, 2), (3, 4)]), [(1, 2)])
        self.assertEqual(odd_part([(9, 9), (1, 2), (9, 9), (0, 0)]), [(9, 9), (1, 2), (9, 9)])
        self.assertEqual(odd_part([(5, 5)] * 4), [(5, 5)] * 3)

    def test_odd_numbers_keep_all(self):
        for heap in ([(1, 2)], [(9, 9), (1, 2), (0, 0)], [(5, 5)] * 7):
            self.assertEqual(odd_part(heap), heap)

    def test_a_new_list_each_time(self):
        for heap in ([(1, 2)], [(1, 2), (3, 4)], [(9, 9), (1, 2), (0, 0)]):
            before = list(heap)
            told = odd_part(heap)
            self.assertIs(type(told), list)
            self.assertIsNot(told, heap)
            told.clear()
            self.assertEqual(heap, before)
            self.assertEqual(odd_part(heap), before[:1] if len(before) == 2 else before)

    def test_without_points(self):
        with self.assertRaises(Empty):
            odd_part([])
        with self.assertRaises(LineError):
            odd_part([])

    def test_what_halves_it_halves_the_heap(self):
        draw = random.Random(30)
        for many in range(1, 9):
            heap = drawn_heap(draw, many, 3)
            for a, b, c in product((0, 1), (-1, 1), range(-4, 5)):
                if slow_halves((a, b, c), odd_part(heap)):
                    self.assertTrue(slow_halves((a, b, c), heap))


class Gap(unittest.TestCase):
    def test_small(self):
        one, other = [(7, 1)], [(2, 5)]
        told = {(1, 0): 5, (0, 1): -4, (1, 1): 1, (-1, 0): -5, (0, -1): 4, (-1, -1): -1, (3, -2): 23, (-3, 2): -23}
        self.assertEqual({arrow: gap(one, other, arrow) for arrow in told}, told)
        self.assertEqual(gap([(0, 0), (9, 0), (4, 0)], [(1, 1)], (1, 0)), 3)
        self.assertEqual(gap([(0, 0), (9, 0), (4, 0)], [(1, 1), (1, 1), (9, 9)], (1, 0)), 3)

    def test_by_arrows_of_all_signs_turned_about_and_exchanged(self):
        draw = random.Random(31)
        for many, more, reach in product((1, 3, 7), (1, 5), (2, 50, BIG)):
            one, other = drawn_heap(draw, many, reach), drawn_heap(draw, more, reach)
            before = (list(one), list(other))
            for a, b in ARROWS:
                told = gap(one, other, (a, b))
                self.assertEqual(told, slow_middle(one, (a, b)) - slow_middle(other, (a, b)))
                self.assertEqual(gap(one, other, (-a, -b)), -told)
                self.assertEqual(gap(other, one, (a, b)), -told)
                self.assertEqual(gap(one, one, (a, b)), 0)
            self.assertEqual((one, other), before)

    def test_thirty_figures_are_told_exactly(self):
        self.assertEqual(gap([(BIG, BIG)], [(BIG - 1, BIG)], (BIG, 1 - BIG)), BIG)
        self.assertEqual(gap([(BIG, BIG)], [(-BIG, -BIG)], (-BIG, -1)), -2 * BIG * (BIG + 1))


class Narrowed(unittest.TestCase):
    def check(self, one, other):
        before = (list(one), list(other))
        told = narrowed(one, other)
        self.assertEqual((one, other), before)
        self.assertEqual(narrowed(one, other), told)
        self.assertIs(type(told), tuple)
        line, lots = told
        self.assertIs(type(lots), list)
        odd_one, odd_other = odd_part(one), odd_part(other)
        self.assertGreaterEqual(len(lots), 1)
        self.assertLessEqual(len(lots), slope_count(one + other).bit_length() + 1)
        self.check_lots(lots, odd_one, odd_other)
        self.check_line(line, lots[-1], odd_one, odd_other)
        self.assertTrue(slow_halves(line, one) and slow_halves(line, other))
        return told

    def check_lots(self, lots, one, other):
        (a, b), end = lots[0]
        self.assertEqual(end, (-a, -b))
        for lot in lots:
            self.assertIs(type(lot), tuple)
            for arrow in lot:
                self.assertIs(type(arrow), tuple)
                self.assertEqual(gcd(*arrow), 1)
            gaps = [slow_middle(one, arrow) - slow_middle(other, arrow) for arrow in lot]
            self.assertFalse(min(gaps) > 0 or max(gaps) < 0)
        for (u, v), (first, second) in zip(lots, lots[1:]):
            self.assertTrue((first == u) != (second == v))
            new = second if first == u else first
            self.assertTrue(left_of(u, new) and left_of(new, v))
            self.assertTrue(left_of(first, second))

    def check_line(self, line, lot, one, other):
        self.assertTrue(is_line(line))
        a, b, c = line
        for sign, end in product((1, -1), lot):
            values = (slow_middle(one, end), slow_middle(other, end))
            if end == (sign * a, sign * b) and values == (sign * c, sign * c):
                break
        else:
            self.fail("the line is by no end of the last lot at the common middle value")
        for heap in (one, other):
            self.assertTrue(any(a * x + b * y == c for x, y in heap))

    def test_small_heaps_each_beside_each(self):
        for one, other in product([heap for heap in small_heaps() if heap], repeat=2):
            self.check(one, other)

    def test_drawn_heaps(self):
        draw = random.Random(32)
        for reach in (1, 2, 5, 100, BIG):
            for many in range(120):
                self.check(drawn_heap(draw, draw.randint(1, 9), reach), drawn_heap(draw, draw.randint(1, 9), reach))

    def test_heaps_that_lie_apart(self):
        draw = random.Random(33)
        for many in range(40):
            one = drawn_heap(draw, draw.randint(1, 8), 10)
            g, h = draw.randint(-60, 60), draw.randint(-60, 60)
            self.check(one, [(x + g, y + h) for x, y in drawn_heap(draw, draw.randint(1, 8), 10)])

    def test_one_point_each(self):
        for one, other in product(grid(2), grid(2)):
            line, lots = self.check([one], [other])
            if one != other:
                self.assertEqual(line, slow_line(one, other))

    def test_alike_points(self):
        line, lots = self.check([(4, 4)] * 3, [(4, 4)] * 5)
        self.assertEqual(len(lots), 1)
        self.check([(4, 4)] * 3, [(4, 5)] * 5)
        self.check([(4, 4)] * 4 + [(0, 9)], [(4, 5)] * 6 + [(1, 1)])

    def test_a_last_point_that_is_left_out(self):
        self.check([(0, 0), (1, 1)], [(0, 0)])
        self.check([(0, 0), (1, 1)], [(0, 0), (5, -2)])
        self.check([(0, 0), (7, 3)], [(2, 1), (-4, 9)])

    def test_on_one_line(self):
        for g, h in ((1, 0), (0, 1), (2, -1), (3, 7)):
            one = [(g * k, h * k) for k in (5, 0, 3, 1, 1)]
            other = [(g * k, h * k) for k in (-5, 8, 2, 9)]
            self.assertEqual(self.check(one, other)[0], slow_line((0, 0), (g, h)))

    def test_one_heap_twice(self):
        draw = random.Random(34)
        for many in range(1, 14):
            heap = drawn_heap(draw, many, 9)
            self.check(heap, heap)
            self.check(heap, heap[::-1])

    def test_up_to_forty_points(self):
        draw = random.Random(35)
        for many, more in ((40, 40), (39, 40), (40, 39), (39, 39), (40, 1), (1, 40)):
            for reach in (4, 1000, BIG):
                self.check(drawn_heap(draw, many, reach), drawn_heap(draw, more, reach))

    def test_two_rows_narrow_to_their_one_line(self):
        one, other = [(0, 0), (2, 0), (40, 0)], [(-9, 1), (3, 1), (4, 1)]
        self.assertEqual(self.check(one, other)[0], (1, -1, 2))

    def test_between_unlike_ends_are_oddly_many_of_all_lines(self):
        draw = random.Random(36)
        tried = 0
        for many in range(60):
            one, other = drawn_heap(draw, draw.choice((1, 3, 5, 7)), 40), drawn_heap(draw, draw.choice((1, 3, 5)), 40)
            if are_plain(one, other):
                arrows = [(s * a, s * b) for a, b, c in all_lines(one, other) for s in (1, -1)]
                for u, v in narrowed(one, other)[1]:
                    if gap(one, other, u) * gap(one, other, v) < 0:
                        within = [arrow for arrow in arrows if left_of(u, arrow) and left_of(arrow, v)]
                        self.assertEqual(len(within) % 2, 1)
                        tried += 1
        self.assertGreater(tried, 40)

    def test_without_points(self):
        for one, other in (([], []), ([], [(1, 2)]), ([(1, 2)], []), ([], [(1, 2), (3, 4)]), ([(1, 2), (3, 4)], [])):
            with self.assertRaises(Empty):
                narrowed(one, other)
            with self.assertRaises(LineError):
                narrowed(one, other)

    def test_told_lists_are_the_askers_own(self):
        one, other = [(0, 0), (2, 1), (5, 5)], [(7, -3), (1, 1), (0, 9)]
        told = narrowed(one, other)
        lots = list(told[1])
        told[1].clear()
        self.assertEqual(narrowed(one, other)[1], lots)


class Names(unittest.TestCase):
    def test_arguments_by_name(self):
        self.assertEqual(odd_part(heap=[(1, 2), (3, 4)]), [(1, 2)])
        self.assertEqual(gap(arrow=(-1, 0), other=[(2, 5)], one=[(7, 1)]), -5)
        self.assertEqual(narrowed(other=[(2, 1)], one=[(0, 0)]), narrowed([(0, 0)], [(2, 1)]))


if __name__ == "__main__":
    unittest.main()

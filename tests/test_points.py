import unittest
from itertools import permutations, product

from halveline.points import is_heap, is_point, places, turn
from things import BIG, grid, odd_things


class Points(unittest.TestCase):
    def test_points(self):
        for thing in grid(2) + list(product((BIG, -BIG, 0), repeat=2)):
            with self.subTest(thing=thing):
                self.assertIs(is_point(thing), True)

    def test_thirty_figures_are_a_point_and_thirty_one_are_none(self):
        for beyond in (BIG + 1, -BIG - 1, 10 ** 31, -(10 ** 91), 10 ** 5000):
            self.assertIs(is_point((beyond, 0)), False)
            self.assertIs(is_point((0, beyond)), False)
            self.assertIs(is_point((beyond, beyond)), False)

    def test_other_things_are_no_points(self):
        others = [[1, 2], (1, 2, 3), (1,), (), (True, 2), (1, False), (True, True), (1, "2"), (None, 2), (1, (2,))]
        for thing in odd_things() + others:
            with self.subTest(thing=thing):
                self.assertIs(is_point(thing), False)


class Heaps(unittest.TestCase):
    def test_heaps(self):
        for thing in ([], [(1, 2)], [(1, 2), (1, 2)], grid(2), [(BIG, -BIG), (0, 0), (-BIG, BIG)]):
            with self.subTest(thing=thing):
                self.assertIs(is_heap(thing), True)

    def test_other_things_are_no_heaps(self):
        others = [((1, 2), (3, 4)), (), (1, 2), {(1, 2): 0}, {(1, 2)}, "", [[1, 2], [3, 4]], [[(1, 2)]]]
        for thing in odd_things() + others:
            with self.subTest(thing=thing):
                self.assertIs(is_heap(thing), False)

    def test_one_thing_that_is_no_point_makes_it_no_heap(self):
        points = [(1, 2), (3, 4), (1, 2)]
        wrongs = odd_things() + [[3, 4], (3, True), (BIG + 1, 0), (0, -BIG - 1), (1, 2, 3)]
        for wrong, at in product(wrongs, range(4)):
            with self.subTest(wrong=wrong, at=at):
                self.assertIs(is_heap(points[:at] + [wrong] + points[at:]), False)

    def test_a_list_within_itself_is_no_heap(self):
        ring = [(1, 2)]
        ring.append(ring)
        self.assertIs(is_heap(ring), False)


class Places(unittest.TestCase):
    def test_alike_points_in_each_order(self):
        for heap in permutations([(2, 1), (-1, 5), (2, 1), (2, -3), (-1, 5)]):
            self.assertEqual(places(list(heap)), [(-1, 5), (2, -3), (2, 1)])

    def test_sorted_by_x_then_y_as_numbers(self):
        heap = [(10, 0), (9, BIG), (-10, 0), (-9, 0), (9, -BIG), (BIG, 0), (-BIG, 0)]
        told = [(-BIG, 0), (-10, 0), (-9, 0), (9, -BIG), (9, BIG), (10, 0), (BIG, 0)]
        self.assertEqual(places(heap), told)

    def test_none_and_one(self):
        self.assertEqual(places([]), [])
        self.assertEqual(places([(4, 4)] * 18), [(4, 4)])

    def test_the_heap_stays_as_it_was(self):
        heap = [(2, 1), (1, 2), (2, 1)]
        places(heap)
        self.assertEqual(heap, [(2, 1), (1, 2), (2, 1)])

    def test_each_list_is_new(self):
        for heap in ([], [(1, 2)], [(1, 2), (3, 4)]):
            told = places(heap)
            self.assertIsInstance(told, list)
            self.assertIsNot(told, heap)
            told.append((9, 9))
            self.assertEqual(places(heap), heap)
            self.assertIsNot(places(heap), places(heap))

    def test_what_is_done_behind_the_call_has_no_bearing(self):
        heap = [(1, 2), (3, 4)]
        told = places(heap)
        heap.clear()
        self.assertEqual(told, [(1, 2), (3, 4)])


class Turns(unittest.TestCase):
    def check_each_order(self, one, two, three, told):
        for order in ((one, two, three), (two, three, one), (three, one, two)):
            self.assertEqual(turn(*order), told, order)
        for order in ((two, one, three), (one, three, two), (three, two, one)):
            self.assertEqual(turn(*order), -told, order)

    def test_left_right_and_straight_in_each_order(self):
        self.check_each_order((0, 0), (1, 0), (0, 1), 1)
        self.check_each_order((0, 0), (0, 1), (1, 0), -1)
        self.check_each_order((3, -2), (5, -1), (4, 7), 1)
        self.check_each_order((-1, -1), (0, 0), (5, 5), 0)
        self.check_each_order((2, 7), (2, -7), (2, 0), 0)
        self.check_each_order((7, 2), (-7, 2), (0, 2), 0)

    def test_alike_points_turn_nowhere(self):
        for one, other in product(grid(1), repeat=2):
            self.check_each_order(one, one, other, 0)

    def test_left_and_right_of_each_way(self):
        for one, way in product(grid(2), grid(2)):
            if way != (0, 0):
                (x, y), (g, h) = one, way
                to = (x + g, y + h)
                self.check_each_order(one, to, (x - h, y + g), 1)
                self.check_each_order(one, to, (x + h, y - g), -1)
                self.check_each_order(one, to, (x + 3 * g, y + 3 * h), 0)

    def test_thirty_figures_are_told_exactly(self):
        low = (-BIG, -BIG)
        self.check_each_order(low, (0, 0), (BIG, BIG), 0)
        self.check_each_order(low, (0, 0), (BIG - 1, BIG), 1)
        self.check_each_order(low, (0, 0), (BIG, BIG - 1), -1)
        self.check_each_order((0, 0), (BIG, BIG - 1), (BIG - 1, BIG - 2), -1)

    def test_the_answer_is_a_whole_number(self):
        for three in ((0, 1), (2, 0), (0, -1)):
            self.assertIs(type(turn((0, 0), (1, 0), three)), int)


class Names(unittest.TestCase):
    def test_arguments_by_name(self):
        self.assertIs(is_point(thing=(1, 2)), True)
        self.assertIs(is_heap(thing=[(1, 2)]), True)
        self.assertEqual(places(heap=[(1, 2), (1, 2)]), [(1, 2)])
        self.assertEqual(turn(three=(0, 1), one=(0, 0), two=(1, 0)), 1)

    def test_asked_again_the_same_is_told(self):
        heap = [(2, 1), (1, 2), (2, 1)]
        self.assertEqual(places(heap), places(heap))
        self.assertEqual([is_heap(heap) for k in range(3)], [True] * 3)
        self.assertEqual([turn((0, 0), (1, 0), (0, 1)) for k in range(3)], [1] * 3)


if __name__ == "__main__":
    unittest.main()

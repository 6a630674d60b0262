import unittest
from itertools import product
from math import gcd
from random import Random

from halveline.alllines import all_lines
from halveline.errors import Lacking, LineError
from halveline.keepers import Keeper
from things import BIG, drawn_heap, slow_all_lines, slow_order, small_heaps


def line_side(line, point):
    """1, 0, -1: above, on, below, reckoned apart from the program."""
    height = line[0] * point[0] + line[1] * point[1] - line[2]
    return (height > 0) - (height < 0)


class Deeds(unittest.TestCase):
    """A keeper beside two plain lists, with which the same is done."""

    def begin(self, one, other):
        self.heaps = [list(one), list(other)]
        self.keeper = Keeper(one, other)
        self.known = slow_all_lines(one, other)
        self.check_kept()

    def check_kept(self):
        for which in (0, 1):
            self.assertEqual(self.keeper.heap(which), self.heaps[which])
        self.assertEqual(self.keeper.lines(), self.known)

    def check_told(self, told):
        elder, self.known = self.known, slow_all_lines(*self.heaps)
        lost = [line for line in elder if line not in self.known]
        new = [line for line in self.known if line not in elder]
        self.assertEqual(told, (lost, new))
        self.assertEqual([type(part) for part in (told, *told)], [tuple, list, list])
        self.check_kept()

    def come(self, which, point):
        self.heaps[which].append(point)
        self.check_told(self.keeper.come(which, point))

    def go(self, which, point):
        self.heaps[which].remove(point)
        self.check_told(self.keeper.go(which, point))

    def step(self, which, point, to):
        heap = self.heaps[which]
        heap[heap.index(point)] = to
        told = self.keeper.step(which, point, to)
        self.check_told(told)
        for line in told[0] + told[1]:
            sides = (line_side(line, point), line_side(line, to))
            self.assertTrue(0 in sides or sides[0] == -sides[1], (line, point, to))
        return told

    def test_drawn_deeds_in_rows(self):
        draw = Random(96)
        for reach in (1, 2, 6, BIG):
            for k in range(6):
                self.begin(drawn_heap(draw, draw.randint(0, 5), reach), drawn_heap(draw, draw.randint(0, 5), reach))
                for j in range(15):
                    which = draw.randrange(2)
                    heap = self.heaps[which]
                    [fresh] = drawn_heap(draw, 1, reach)
                    deed = draw.choice(("come", "go", "step")) if heap else "come"
                    if deed == "come":
                        self.come(which, draw.choice(heap + [fresh]))
                    elif deed == "go":
                        self.go(which, draw.choice(heap))
                    else:
                        self.step(which, draw.choice(heap), draw.choice(heap + [fresh, fresh]))

    def test_up_to_twelve_points(self):
        draw = Random(97)
        for reach in (4, BIG):
            self.begin(drawn_heap(draw, 11, reach), drawn_heap(draw, 12, reach))
            self.come(0, (1, 2))
            self.step(1, self.heaps[1][5], (0, 0))
            self.step(0, (1, 2), (-3, 1))
            self.go(1, (0, 0))

    def test_a_step_changes_lines_that_pass_it_by(self):
        draw = Random(98)
        changed = 0
        for k in range(40):
            self.begin(drawn_heap(draw, 5, 9), drawn_heap(draw, 5, 9))
            for which in (0, 1):
                lost, new = self.step(which, self.heaps[which][2], drawn_heap(draw, 1, 9)[0])
                changed += len(lost) + len(new)
        self.assertGreater(changed, 100)

    def test_from_nothing_and_back(self):
        self.begin([], [])
        for which, point in ((0, (0, 0)), (1, (0, 0)), (1, (2, 1)), (0, (4, 2)), (0, (0, 0)), (1, (5, 5))):
            self.come(which, point)
        for which, point in ((0, (0, 0)), (1, (0, 0)), (0, (0, 0)), (1, (5, 5)), (0, (4, 2)), (1, (2, 1))):
            self.go(which, point)
        self.assertEqual(self.heaps, [[], []])

    def test_a_point_comes_again_at_the_end(self):
        self.begin([(0, 0), (5, 1)], [(2, 2)])
        self.come(0, (0, 0))
        self.assertEqual(self.keeper.heap(0), [(0, 0), (5, 1), (0, 0)])

    def test_the_first_of_two_alike_goes_and_steps(self):
        self.begin([(7, 0), (1, 1), (3, 4), (1, 1), (0, 2)], [(2, 2)])
        self.step(0, (1, 1), (9, 9))
        self.assertEqual(self.keeper.heap(0), [(7, 0), (9, 9), (3, 4), (1, 1), (0, 2)])
        self.step(0, (9, 9), (1, 1))
        self.go(0, (1, 1))
        self.assertEqual(self.keeper.heap(0), [(7, 0), (3, 4), (1, 1), (0, 2)])

    def test_a_step_to_itself_and_to_another_ones_place(self):
        self.begin([(7, 0), (1, 1), (3, 4)], [(2, 2), (5, -1)])
        self.assertEqual(self.step(0, (1, 1), (1, 1)), ([], []))
        self.step(0, (1, 1), (3, 4))
        self.step(0, (3, 4), (7, 0))
        self.step(1, (2, 2), (7, 0))
        self.assertEqual(self.keeper.heap(0), [(7, 0), (7, 0), (3, 4)])

    def test_known_lines_lost_and_new(self):
        keeper = Keeper([(0, 0)], [(2, 1)])
        self.assertEqual(keeper.lines(), [(1, -2, 0)])
        self.assertEqual(keeper.step(1, (2, 1), (0, 5)), ([(1, -2, 0)], [(1, 0, 0)]))
        self.assertEqual(keeper.come(1, (5, 0)), ([], [(0, 1, 0)]))
        self.assertEqual(keeper.go(0, (0, 0)), ([(1, 0, 0), (0, 1, 0)], [(1, 1, 5)]))

    def test_lacking_and_nothing_is_changed(self):
        self.assertTrue(issubclass(Lacking, LineError))
        for one, other in (([], []), ([(0, 0), (4, 1)], [(1, 1), (3, 7), (1, 1)]), ([(3, 3)], [])):
            self.begin(one, other)
            for which, point in product((0, 1), ((9, 9), (0, 0), (1, 1), (4, 1), (1, 4), (3, 3))):
                if point in self.heaps[which]:
                    continue
                for deed in (lambda: self.keeper.go(which, point), lambda: self.keeper.step(which, point, (6, 6)),
                             lambda: self.keeper.step(which, point, point)):
                    with self.assertRaises(Lacking):
                        deed()
                    self.check_kept()
            self.come(0, (2, 5))

    def test_what_was_handed_in_or_told_has_no_bearing(self):
        one, other = [(0, 0), (4, 1), (1, 5)], [(2, 2), (7, 3)]
        self.begin(one, other)
        one.append((50, 50))
        other.clear()
        self.check_kept()
        for told in (self.keeper.heap(0), self.keeper.heap(1), self.keeper.lines()):
            told.append((8, 8))
            told.reverse()
            self.check_kept()
        lost, new = self.keeper.come(0, (3, 3))
        self.heaps[0].append((3, 3))
        self.known = slow_all_lines(*self.heaps)
        lost.append((1, 0, 0))
        new.clear()
        self.check_kept()
        lost, new = self.keeper.step(0, (3, 3), (3, 3))
        lost.append((1, 0, 0))
        new.append((1, 0, 0))
        self.check_kept()
        self.assertEqual(self.keeper.step(0, (3, 3), (3, 3)), ([], []))

    def test_the_lists_told_are_new_with_each_call(self):
        keeper = Keeper([(0, 0), (4, 1)], [(2, 2)])
        self.assertIsNot(keeper.heap(0), keeper.heap(0))
        self.assertIsNot(keeper.lines(), keeper.lines())

    def test_two_keepers_beside_each_other(self):
        heap = [(0, 0), (4, 1)]
        first, second = Keeper(heap, heap), Keeper(heap, [])
        first.come(1, (3, 3))
        first.go(0, (0, 0))
        self.assertEqual((first.heap(0), first.heap(1)), ([(4, 1)], [(0, 0), (4, 1), (3, 3)]))
        self.assertEqual((second.heap(0), second.heap(1)), (heap, []))
        self.assertEqual(second.lines(), all_lines(heap, []))
        self.assertEqual(heap, [(0, 0), (4, 1)])

    def test_arguments_by_name(self):
        keeper = Keeper(other=[(2, 2)], one=[(0, 0)])
        self.assertEqual(keeper.heap(which=1), [(2, 2)])
        keeper.come(point=(5, 5), which=1)
        keeper.step(to=(1, 3), point=(2, 2), which=1)
        keeper.go(point=(0, 0), which=0)
        self.assertEqual((keeper.heap(0), keeper.heap(1)), ([], [(1, 3), (5, 5)]))


class Carried(unittest.TestCase):
    """All lines of heaps that are shifted, turned or stretched."""

    def check(self, one, other, move, carry):
        told = all_lines([move(*point) for point in one], [move(*point) for point in other])
        carried = []
        for line in all_lines(one, other):
            a, b, c = carry(*line)
            way = 1 if (a, b) > (0, 0) else -1
            self.assertEqual(gcd(a, b), 1)
            carried.append((a * way, b * way, c * way))
        self.assertEqual(told, slow_order(carried))

    def test_all_moves(self):
        draw = Random(99)
        pairs = [(drawn_heap(draw, draw.randint(0, 7), reach), drawn_heap(draw, draw.randint(0, 7), reach))
                 for reach in (2, 9, 10 ** 28) for k in range(15)]
        pairs += list(product(small_heaps()[:14], repeat=2))
        for one, other in pairs:
            for g, h in ((0, 1), (-5, 3), (10 ** 28, -10 ** 28 + 1)):
                self.check(one, other, lambda x, y: (x + g, y + h), lambda a, b, c: (a, b, c + a * g + b * h))
            self.check(one, other, lambda x, y: (-y, x), lambda a, b, c: (-b, a, c))
            for k in (1, 2, 7, 30):
                self.check(one, other, lambda x, y: (k * x, k * y), lambda a, b, c: (a, b, k * c))


if __name__ == "__main__":
    unittest.main()

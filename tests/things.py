"""Things that several tests hand in."""

from functools import cmp_to_key
from itertools import combinations, product
from math import gcd

# The largest number of thirty figures; one more has thirty-one.
BIG = 10 ** 30 - 1


def grid(reach):
    """All points with numbers from -reach to reach."""
    span = range(-reach, reach + 1)
    return list(product(span, span))


def drawn_heap(draw, many, reach):
    """A heap of so many points with numbers from -reach to reach, as a random.Random draws them."""
    return [(draw.randint(-reach, reach), draw.randint(-reach, reach)) for k in range(many)]


def small_heaps():
    """Heaps of many forms: none, one, alike points, on one line, in a grid, heavy places, long numbers."""
    return [
        [], [(3, -4)], [(3, -4)] * 4, [(0, 0), (2, 1)], [(0, 0), (2, 1), (0, 0)], [(1, 5)] * 3 + [(5, 1)] * 2,
        [(k, 0) for k in range(5)], [(0, k) for k in range(4)], [(2 * k, -k) for k in (3, 0, 1, 2, 5)],
        [(2 * k, 3 * k) for k in (1, 1, 1, 0, 4)], grid(1), grid(1)[:7], [(0, 0), (4, 0), (0, 4), (1, 1)],
        [(0, 0)] * 6 + [(5, 1), (1, 5), (-4, 2)], [(1, 1)] * 4 + [(7, 1), (1, 7), (-2, -9)], [(0, 0), (9, 1), (2, 8)],
        [(BIG, BIG), (-BIG, -BIG)], [(BIG, -BIG), (BIG - 1, BIG), (-BIG, 1), (0, BIG), (1, -BIG), (BIG, -BIG)],
    ]


def slow_line(one, other):
    """The line through two unlike points, reckoned apart from the program."""
    a, b = other[1] - one[1], one[0] - other[0]
    divisor = gcd(a, b) * (-1 if (a, b) < (0, 0) else 1)
    return (a // divisor, b // divisor, (a * one[0] + b * one[1]) // divisor)


def slow_halves(line, heap):
    """Whether a line halves a heap, reckoned apart from the program."""
    a, b, c = line
    less = sum(1 for x, y in heap if a * x + b * y < c)
    more = sum(1 for x, y in heap if a * x + b * y > c)
    return max(less, more) * 2 <= len(heap)


def slow_order(lines):
    """Lines or normals in their order, by comparing each two as the document does."""
    def compare(one, other):
        ahead = one[0] * other[1] - one[1] * other[0]
        if ahead:
            return -1 if ahead > 0 else 1
        return (one > other) - (one < other)
    return sorted(lines, key=cmp_to_key(compare))


def slow_all_lines(one, other):
    """All lines through two places that halve both heaps, each pair of places tried."""
    lines = {slow_line(*pair) for pair in combinations(set(one + other), 2)}
    return slow_order(line for line in lines if slow_halves(line, one) and slow_halves(line, other))


def drawn_cloud(draw, many, reach):
    """A cloud of so many spots with numbers from -reach to reach, as a random.Random draws them."""
    return [tuple(draw.randint(-reach, reach) for k in range(3)) for j in range(many)]


def is_flat(thing):
    """Whether a thing is a flat, reckoned apart from the program."""
    if type(thing) is not tuple or [type(part) for part in thing] != [int] * 4:
        return False
    a, b, c, d = thing
    return gcd(a, b, c) == 1 and (a, b, c) > (0, 0, 0)


def slow_flat_halves(flat, cloud):
    """Whether a flat halves a cloud, reckoned apart from the program."""
    a, b, c, d = flat
    less = sum(1 for x, y, z in cloud if a * x + b * y + c * z < d)
    more = sum(1 for x, y, z in cloud if a * x + b * y + c * z > d)
    return max(less, more) * 2 <= len(cloud)


def slow_aligned(one, two, three):
    """Whether three spots lie on one line, reckoned apart from the program: their ways stretch one another."""
    way, other = ([end - start for end, start in zip(spot, one)] for spot in (two, three))
    return all(way[k] * other[j] == way[j] * other[k] for k, j in ((0, 1), (0, 2), (1, 2)))


def odd_things():
    """Things of many kinds that are no point, no heap and no line."""
    return [
        True, False, None, 0, 1, -7, 10 ** 40, "", "1,2", "1 -2 3", "ab", "abc", b"", b"ab", b"abc",
        (), {}, {1: 2}, {(1, 2): (3, 4)}, set(), {1, 2}, {(1, 2)}, frozenset([1, 2]), range(2), range(3),
        object(), object, len, int, tuple, list, ValueError("1,2"), iter([1, 2]), bytearray(b"ab"),
        [1, 2], [1, 2, 3], [None], [[]], [()], [[1, 2]], [True], ["1,2"], ((),), ([],), (None,), (1,), ("1,2",),
        (1, 2, 3, 4), (1, None), (None, 1), ("1", "2"), ((1, 2), (3, 4)), ([1], [2]), (True, False),
        (None, None, None), ("1", "2", "3"), ((1, 0, 0), (0, 1, 0), (1, 1, 1)),
    ]

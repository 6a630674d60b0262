"""Things that several tests hand in."""

from fractions import Fraction
from functools import cmp_to_key
from itertools import combinations, product
from math import gcd

# The largest number of thirty figures; one more has thirty-one.
BIG = 10 ** 30 - 1


def grid(reach):
    """All points with numbers from -reach to reach."""
    span = range(-reach, reach + 1)
    return list(product(span, span))


def drawn_heap(draw, many, reach):
    """A heap of so many points with numbers from -reach to reach, as a random.Random draws them."""
    return [(draw.randint(-reach, reach), draw.randint(-reach, reach)) for k in range(many)]


def small_heaps():
    """Heaps of many forms: none, one, alike points, on one line, in a grid, heavy places, long numbers."""
    return [
        [], [(3, -4)], [(3, -4)] * 4, [(0, 0), (2, 1)], [(0, 0), (2, 1), (0, 0)], [(1, 5)] * 3 + [(5, 1)] * 2,
        [(k, 0) for k in range(5)], [(0, k) for k in range(4)], [(2 * k, -k) for k in (3, 0, 1, 2, 5)],
        [(2 * k, 3 * k) for k in (1, 1, 1, 0, 4)], grid(1), grid(1)[:7], [(0, 0), (4, 0), (0, 4), (1, 1)],
        [(0, 0)] * 6 + [(5, 1), (1, 5), (-4, 2)], [(1, 1)] * 4 + [(7, 1), (1, 7), (-2, -9)], [(0, 0), (9, 1), (2, 8)],
        [(BIG, BIG), (-BIG, -BIG)], [(BIG, -BIG), (BIG - 1, BIG), (-BIG, 1), (0, BIG), (1, -BIG), (BIG, -BIG)],
    ]


def slow_line(one, other):
    """The line through two unlike points, reckoned apart from the program."""
    a, b = other[1] - one[1], one[0] - other[0]
    divisor = gcd(a, b) * (-1 if (a, b) < (0, 0) else 1)
    return (a // divisor, b // divisor, (a * one[0] + b * one[1]) // divisor)


def slow_halves(line, heap):
    """Whether a line halves a heap, reckoned apart from the program."""
    a, b, c = line
    less = sum(1 for x, y in heap if a * x + b * y < c)
    more = sum(1 for x, y in heap if a * x + b * y > c)
    return max(less, more) * 2 <= len(heap)


def slow_order(lines):
    """Lines or normals in their order, by comparing each two as the document does."""
    def compare(one, other):
        ahead = one[0] * other[1] - one[1] * other[0]
        if ahead:
            return -1 if ahead > 0 else 1
        return (one > other) - (one < other)
    return sorted(lines, key=cmp_to_key(compare))


def slow_all_lines(one, other):
    """All lines through two places that halve both heaps, each pair of places tried."""
    lines = {slow_line(*pair) for pair in combinations(set(one + other), 2)}
    return slow_order(line for line in lines if slow_halves(line, one) and slow_halves(line, other))


def drawn_cloud(draw, many, reach):
    """A cloud of so many spots with numbers from -reach to reach, as a random.Random draws them."""
    return [tuple(draw.randint(-reach, reach) for k in range(3)) for j in range(many)]


def is_flat(thing):
    """Whether a thing is a flat, reckoned apart from the program."""
    if type(thing) is not tuple or [type(part) for part in thing] != [int] * 4:
        return False
    a, b, c, d = thing
    return gcd(a, b, c) == 1 and (a, b, c) > (0, 0, 0)


def slow_flat_halves(flat, cloud):
    """Whether a flat halves a cloud, reckoned apart from the program."""
    a, b, c, d = flat
    less = sum(1 for x, y, z in cloud if a * x + b * y + c * z < d)
    more = sum(1 for x, y, z in cloud if a * x + b * y + c * z > d)
    return max(less, more) * 2 <= len(cloud)


def slow_aligned(one, two, three):
    """Whether three spots lie on one line, reckoned apart from the program: their ways stretch one another."""
    way, other = ([end - start for end, start in zip(spot, one)] for spot in (two, three))
    return all(way[k] * other[j] == way[j] * other[k] for k, j in ((0, 1), (0, 2), (1, 2)))


def hull(points):
    """The cake whose corners are the outermost of these points, reckoned apart from the program."""
    def half(row):
        kept = []
        for x, y in row:
            while len(kept) > 1:
                (g, h), (j, k) = kept[-2:]
                if (j - g) * (y - h) > (k - h) * (x - g):
                    break
                kept.pop()
            kept.append((x, y))
        return kept[:-1]
    row = sorted(set(points))
    return half(row) + half(row[::-1])


def drawn_cake(draw, many, reach):
    """A cake of at most so many corners with numbers from -reach to reach, from any corner on."""
    cake = []
    while len(cake) < 3:
        cake = hull(drawn_heap(draw, many, reach))
    at = draw.randrange(len(cake))
    return cake[at:] + cake[:at]


def small_cakes():
    """Cakes of many forms: triangles, alike about their middle, of twelve corners, of long numbers."""
    ring = [(9, 0), (8, 4), (5, 7), (0, 9), (-4, 8), (-8, 4), (-9, 0), (-8, -4), (-5, -7), (0, -9), (4, -8), (8, -4)]
    return [
        [(0, 0), (1, 0), (0, 1)], [(0, 0), (4, 0), (0, 4)], [(0, 0), (5, 2), (-3, 7)], [(-4, 1), (3, -2), (9, 9)],
        [(0, 0), (4, 0), (4, 4), (0, 4)], [(0, 0), (7, 0), (9, 4), (2, 4)], [(2, 0), (0, 3), (-2, 0), (0, -3)],
        [(0, 0), (6, 0), (4, 3), (1, 3)], [(0, 0), (4, 0), (6, 3), (3, 7), (-1, 4)], ring,
        [(BIG * x // 9, BIG * y // 9) for x, y in ring], [(-BIG, -BIG), (BIG, -BIG), (BIG, BIG), (-BIG, BIG)],
        [(0, 0), (BIG, BIG - 1), (BIG - 1, BIG)], [(-BIG, 0), (0, -BIG), (1, -BIG), (BIG, 1), (2, BIG)],
    ]


def arrows():
    """Arrows along the axes, of small numbers, and of up to ten figures."""
    small = [(a, b) for a, b in grid(2) if gcd(a, b) == 1]
    return small + [(3, -7), (-123456789, 987654322), (999999999, 1000000000), (-9999999999, 1)]


def slow_area(corners):
    """Twice the area of a cake, as a sum of triangles with one common corner."""
    twice = 0
    for (g, h), (j, k) in zip(corners[1:], corners[2:]):
        x, y = corners[0]
        twice += (g - x) * (k - y) - (h - y) * (j - x)
    return twice


def slow_below(cake, arrow, place):
    """Twice the part of a cake below a fraction by an arrow: the cake is clipped, side by side."""
    clipped = []
    for (g, h), (j, k) in zip(cake, cake[1:] + cake[:1]):
        start = arrow[0] * g + arrow[1] * h - place
        end = arrow[0] * j + arrow[1] * k - place
        if start < 0:
            clipped.append((g, h))
        if start < 0 < end or end < 0 < start:
            part = Fraction(start) / (start - end)
            clipped.append((g + part * (j - g), h + part * (k - h)))
        if start == 0:
            clipped.append((g, h))
    return slow_area(clipped) if len(clipped) > 2 else 0


def odd_things():
    """Things of many kinds that are no point, no heap and no line."""
    return [
        True, False, None, 0, 1, -7, 10 ** 40, "", "1,2", "1 -2 3", "ab", "abc", b"", b"ab", b"abc",
        (), {}, {1: 2}, {(1, 2): (3, 4)}, set(), {1, 2}, {(1, 2)}, frozenset([1, 2]), range(2), range(3),
        object(), object, len, int, tuple, list, ValueError("1,2"), iter([1, 2]), bytearray(b"ab"),
        [1, 2], [1, 2, 3], [None], [[]], [()], [[1, 2]], [True], ["1,2"], ((),), ([],), (None,), (1,), ("1,2",),
        (1, 2, 3, 4), (1, None), (None, 1), ("1", "2"), ((1, 2), (3, 4)), ([1], [2]), (True, False),
        (None, None, None), ("1", "2", "3"), ((1, 0, 0), (0, 1, 0), (1, 1, 1)),
    ]

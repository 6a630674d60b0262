"""Things that several tests hand in."""

from itertools import product

# The largest number of thirty figures; one more has thirty-one.
BIG = 10 ** 30 - 1


def grid(reach):
    """All points with numbers from -reach to reach."""
    span = range(-reach, reach + 1)
    return list(product(span, span))


def odd_things():
    """Things of many kinds that are no point, no heap and no line."""
    return [
        True, False, None, 0, 1, -7, 10 ** 40, "", "1,2", "1 -2 3", "ab", "abc", b"", b"ab", b"abc",
        (), {}, {1: 2}, {(1, 2): (3, 4)}, set(), {1, 2}, {(1, 2)}, frozenset([1, 2]), range(2), range(3),
        object(), object, len, int, tuple, list, ValueError("1,2"), iter([1, 2]), bytearray(b"ab"),
        [1, 2], [1, 2, 3], [None], [[]], [()], [[1, 2]], [True], ["1,2"], ((),), ([],), (None,), (1,), ("1,2",),
        (1, 2, 3, 4), (1, None), (None, 1), ("1", "2"), ((1, 2), (3, 4)), ([1], [2]), (True, False),
        (None, None, None), ("1", "2", "3"), ((1, 0, 0), (0, 1, 0), (1, 1, 1)),
    ]

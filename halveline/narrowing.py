"""One line that halves two heaps, found by narrowing a half-turn of directions."""

from halveline.errors import Empty
from halveline.middles import middle, slopes
from halveline.wholes import sign


def odd_part(heap):
    """Tell a heap without its last point where its number is even, else as it is; Empty without points."""
    if not heap:
        raise Empty("a heap without points has no odd part")
    if len(heap) % 2 == 0:
        return heap[:-1]
    return list(heap)


def gap(one, other, arrow):
    """Tell the middle value of the first heap less that of the second, both with odd numbers of points."""
    return middle(one, arrow)[0] - middle(other, arrow)[0]


def turned_about(arrow):
    """Tell the arrow that points the other way."""
    return (-arrow[0], -arrow[1])


def narrowed_lots(one, other, normals):
    """Tell the lots of two odd heaps, and the one of all their slopes at which the narrowing ends with gap 0."""
    tried = normals[0]
    left = normals[1:]
    lots = [(tried, turned_about(tried))]
    here = start = sign(gap(one, other, tried))
    # The gap has the sign of the start at the first end of each lot and the other sign at its second end. Between two
    # neighbouring slopes it keeps its sign, so it is 0 at one of those that are left: they don't run out.
    while here != 0:
        half = len(left) // 2
        tried = left[half]
        here = sign(gap(one, other, tried))
        first, second = lots[-1]
        if here == start:
            lots.append((tried, second))
            left = left[half + 1:]
        else:
            lots.append((first, tried))
            left = left[:half]
    return (lots, tried)


def narrowed(one, other):
    """Tell a line that halves both heaps, and the lots that lead to it; Empty where one has no points."""
    odd_one = odd_part(one)
    odd_other = odd_part(other)
    # Where all points stand at one place there is no slope, and the gap is 0 by each arrow.
    normals = slopes(one + other) or [(1, 0)]
    lots, normal = narrowed_lots(odd_one, odd_other, normals)
    line = (normal[0], normal[1], middle(odd_one, normal)[0])
    return (line, lots)

"""Points, heaps of points, and how three points turn."""

from halveline.wholes import are_whole, has_few_figures, sign


def is_point(thing):
    """Tell whether a thing, whatever it is, is a point."""
    if not isinstance(thing, tuple) or len(thing) != 2 or not are_whole(thing):
        return False
    return has_few_figures(thing[0]) and has_few_figures(thing[1])


def is_heap(thing):
    """Tell whether a thing, whatever it is, is a heap."""
    return isinstance(thing, list) and all([is_point(part) for part in thing])


def places(heap):
    """Tell the unlike points of a heap, sorted."""
    return sorted(set(heap))


def place_pairs(heap):
    """Tell all pairs of unlike places of a heap, each once."""
    unlike = places(heap)
    return [(one, other) for at, one in enumerate(unlike) for other in unlike[at + 1:]]


def turn(one, two, three):
    """Tell 1 where the third lies left of the way from the first to the second, -1 right, 0 neither."""
    x, y = one
    along = (two[0] - x) * (three[1] - y)
    across = (two[1] - y) * (three[0] - x)
    return sign(along - across)

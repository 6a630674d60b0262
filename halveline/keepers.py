"""Two heaps that are kept while their points come, go and step, and all lines of both."""

from halveline.alllines import all_lines
from halveline.errors import Lacking


def grown(heap, point):
    """Tell a heap with one point more at its end."""
    return heap + [point]


def find_place(heap, point):
    """Tell at which place of a heap's list a point stands first; Lacking where it isn't there."""
    if point not in heap:
        raise Lacking("no such point")
    return heap.index(point)


def shrunk(heap, point):
    """Tell a heap without a point, the first one in its list that is so; Lacking."""
    at = find_place(heap, point)
    return heap[:at] + heap[at + 1:]


def stepped(heap, point, to):
    """Tell a heap in which a point, the first one that is so, has become another one; Lacking."""
    at = find_place(heap, point)
    return heap[:at] + [to] + heap[at + 1:]


def lines_without(lines, others):
    """Tell those lines that are not among the others, in their order."""
    known = set(others)
    return [line for line in lines if line not in known]


class Keeper:
    """Two heaps, numbered 0 and 1, and all lines of both."""

    def __init__(self, one, other):
        self.heaps = [list(one), list(other)]
        self.kept = all_lines(one, other)

    def heap(self, which):
        """Tell the points of a heap, in their order."""
        return list(self.heaps[which])

    def lines(self):
        """Tell all lines of both heaps, in order."""
        return list(self.kept)

    def put(self, which, heap):
        """Put a heap in the place of another one; tell the lists of the lines that are lost and that are new."""
        elder = self.kept
        self.heaps[which] = heap
        self.kept = all_lines(self.heaps[0], self.heaps[1])
        return (lines_without(elder, self.kept), lines_without(self.kept, elder))

    def come(self, which, point):
        """Let a point come to a heap; tell the lines that are lost and new."""
        return self.put(which, grown(self.heaps[which], point))

    def go(self, which, point):
        """Let a point go from a heap; tell the lines that are lost and new. Lacking."""
        return self.put(which, shrunk(self.heaps[which], point))

    def step(self, which, point, to):
        """Let a point of a heap become another one; tell the lines that are lost and new. Lacking."""
        return self.put(which, stepped(self.heaps[which], point, to))

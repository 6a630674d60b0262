"""Two cakes: whose cut comes first by an arrow, and between which arrows one line cuts both."""

from halveline.cuts import cut_root
from halveline.narrowing import turned_about
from halveline.wholes import sign


def root_sign(x, y, r):
    """Tell the sign of x and y times the root of r together."""
    # Numbers times their own sizes are in the order of the numbers, and here they are whole.
    return sign(x * abs(x) + y * abs(y) * r)


def two_roots_sign(x, y, r, z, s):
    """Tell the sign of x, y times the root of r, and z times the root of s together."""
    # As above, what stands with the root of r and what stands with the root of s each times its own size.
    ahead = root_sign(x, y, r)
    return root_sign(ahead * (x * x + y * y * r) + z * abs(z) * s, 2 * ahead * x * y, r)


def cut_order(one, other, arrow):
    """Tell the sign of the first cake's cut less the second one's."""
    p, r, q = cut_root(one, arrow)
    g, s, h = cut_root(other, arrow)
    return sign(q * h) * two_roots_sign(p * h - g * q, h, r, -q, s)


def slice_of(one, other, steps):
    """Tell two arrows, come by so many steps from a quarter, between which one line cuts both cakes into halves."""
    first, second = (1, 0), (0, 1)
    order = cut_order(one, other, first)
    later = cut_order(one, other, second)
    # The order by the first arrow turned about is the other one: alike orders in this quarter are unlike in the next.
    if order == later and order != 0:
        first, second = second, turned_about(first)
        order, later = later, -order
    for step in range(steps):
        if order == 0:
            return (first, first)
        if later == 0:
            return (second, second)
        new = (first[0] + second[0], first[1] + second[1])
        new_order = cut_order(one, other, new)
        if new_order == order:
            first = new
        else:
            second, later = new, new_order
    return (first, second)

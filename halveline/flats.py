"""One flat that halves three clouds, found by going through triples of spots."""

from halveline.points import place_pairs, places
from halveline.space import are_aligned, flat_halves, flat_through


def spot_triples(cloud):
    """Tell all triples of unlike spots of a cloud, each once."""
    unlike = places(cloud)
    return [(one, two, three) for at, one in enumerate(unlike) for two, three in place_pairs(unlike[at + 1:])]


def halving_flat(one, two, three):
    """Tell a flat that halves all three clouds and three spots on it, or None where all spots lie on one line."""
    for first, second, third in spot_triples(one + two + three):
        if are_aligned(first, second, third):
            continue
        flat = flat_through(first, second, third)
        if flat_halves(flat, one) and flat_halves(flat, two) and flat_halves(flat, three):
            return (flat, first, second, third)
    return None

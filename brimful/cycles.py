"""Permutations of five points: which there are, how they are joined, and which are cycles."""

from brimful.numbers import is_below

POINTS = 5
SAME = (0, 1, 2, 3, 4)
# These two cycles, then both inverses in the same order, send each point to the next one.
FIRST = (2, 0, 4, 1, 3)
SECOND = (1, 4, 3, 0, 2)


def is_permutation(value):
    """Whether this is a tuple of the five points in some order."""
    if not isinstance(value, tuple) or len(value) != POINTS:
        return False
    if not all([is_below(point, POINTS) for point in value]):
        return False
    return len(set(value)) == POINTS


def is_cycle(value):
    """Whether this is a permutation under which a point goes through all five points."""
    return is_permutation(value) and len(set(_ring(value))) == POINTS


def joined(before, behind):
    """The permutation that sends a point by the one and then by the other."""
    return tuple([behind[point] for point in before])


def inverted(permutation):
    """The permutation that sends each point back."""
    return tuple([permutation.index(point) for point in range(POINTS)])


def two_cycles(cycle):
    """Two cycles that give the cycle if both and then both inverses follow each other."""
    ring = _ring(cycle)
    return _along(ring, FIRST), _along(ring, SECOND)


def _ring(permutation):
    """The points that the point 0 goes through, from itself on."""
    ring = [0]
    for _ in range(POINTS - 1):
        ring.append(permutation[ring[-1]])
    return ring


def _along(ring, permutation):
    """The permutation that sends the places of the ring as the given one sends the points."""
    return tuple([ring[permutation[ring.index(point)]] for point in range(POINTS)])

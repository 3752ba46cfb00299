"""Grids: all points with numbers below given sizes, and polynomials that are known at all these points."""

from brimful.numbers import inverse_of, products_of_differences


def grid_points(sizes):
    """All tuples with a number below each of the sizes, in lexicographic order."""
    point = [0] * len(sizes)
    at = 0
    while at >= 0:
        yield tuple(point)
        at = len(sizes) - 1
        while at >= 0 and point[at] == sizes[at] - 1:
            point[at] = 0
            at -= 1
        if at >= 0:
            point[at] += 1


def coefficients(contents, sizes, prime):
    """The coefficients of the polynomial that has these contents at the points of the grid.

    Its degree in each variable is below the size. The contents are in the order
    of the points, the coefficients in the same order of the exponents.
    """
    for size in sizes:
        many = len(contents) // size
        rows = _rows_for(size, prime)
        # The first variable becomes the last one, so that behind all of them the order is the old one.
        columns = [contents[at::many] for at in range(many)]
        contents = [_combined(row, column) % prime for column in columns for row in rows]
    return contents


def _combined(row, column):
    return sum([factor * content for factor, content in zip(row, column)])


def _rows_for(size, prime):
    """For each exponent, by how much the content at each number from 0 to size - 1 counts (Lagrange)."""
    whole = [1]
    for at in range(size):
        whole = _times(whole, at, prime)
    columns = []
    for at, bottom in enumerate(products_of_differences(size, prime)):
        factor = inverse_of(bottom, prime)
        columns.append([factor * number % prime for number in _divided(whole, at, prime)])
    return list(zip(*columns))


def _times(polynomial, at, prime):
    """The polynomial times x - at; the coefficient of the least power stands first."""
    raised = [0] + polynomial
    return [(above - at * number) % prime for above, number in zip(raised, polynomial + [0])]


def _divided(polynomial, at, prime):
    """The polynomial, which is 0 at this number, divided by x - at."""
    quotient = []
    last = 0
    for number in polynomial[:0:-1]:
        last = (number + at * last) % prime
        quotient.append(last)
    return quotient[::-1]

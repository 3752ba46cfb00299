"""Numbers of a modulus: which values they are, primes, inverses, and the polynomials of tables."""

from math import isqrt

GREATEST_MODULUS = 1000000000


def is_below(value, bound):
    """Whether the value is an integer from 0 to bound - 1."""
    return isinstance(value, int) and not isinstance(value, bool) and 0 <= value < bound


def is_modulus(value):
    """Whether the value is an integer that may be a modulus."""
    return is_below(value, GREATEST_MODULUS + 1) and value >= 2


def are_numbers(values, many, modulus):
    """Whether the values are a list of exactly so many numbers of the modulus."""
    if not isinstance(values, list) or len(values) != many:
        return False
    return all([is_below(value, modulus) for value in values])


def is_prime(n):
    """Whether the integer n is a prime."""
    if n < 4:
        return n > 1
    if n % 2 == 0:
        return False
    for divisor in range(3, isqrt(n) + 1, 2):
        if n % divisor == 0:
            return False
    return True


def inverse_of(n, modulus):
    """The number that gives 1 if it is multiplied by n, or None if there is none."""
    # Euclid's algorithm; each remainder is its own factor times n, modulo the modulus.
    last, rest = modulus, n % modulus
    last_factor, rest_factor = 0, 1
    while rest != 0:
        times = last // rest
        last, rest = rest, last - times * rest
        last_factor, rest_factor = rest_factor, last_factor - times * rest_factor
    return last_factor % modulus if last == 1 else None


def interpolate(table, prime, x, y):
    """The value of the table's polynomial at the numbers x and y."""
    row_shares = _shares(len(table), prime, x % prime)
    column_shares = _shares(len(table), prime, y % prime)
    total = 0
    for row_share, row in zip(row_shares, table):
        if row_share != 0:
            total = total + row_share * _weighted(row, column_shares)
    return total % prime


def _weighted(row, shares):
    return sum([share * value for share, value in zip(shares, row)])


def _shares(size, prime, x):
    """By how much the value at each index from 0 to size - 1 counts at x (Lagrange)."""
    if x < size:
        return [1 if at == x else 0 for at in range(size)]
    # x is beyond all indexes, so no difference x - at is 0 and each can be divided by.
    top = 1
    for at in range(size):
        top = top * (x - at) % prime
    shares = []
    for at, bottom in enumerate(products_of_differences(size, prime)):
        shares.append(top * inverse_of((x - at) * bottom, prime) % prime)
    return shares


def products_of_differences(size, prime):
    """For each index, the product of its differences to all other indexes."""
    factorials = [1]
    for n in range(1, size):
        factorials.append(factorials[-1] * n % prime)
    bottoms = []
    for at in range(size):
        above = size - 1 - at
        sign = 1 if above % 2 == 0 else -1
        bottoms.append(sign * factorials[at] * factorials[above])
    return bottoms

"""Points 2 and 3: primes, inverses, and the polynomial of a table."""

import copy
import unittest
from math import gcd

from brimful.numbers import interpolate, inverse_of, is_prime

GREATEST_PRIME = 999999937  # the greatest prime that may be a modulus
TOP = 2 * 10 ** 9


def passes_as_prime(n):
    """Miller and Rabin's test, which is exact for these bases up to 3215031751."""
    odd, halvings = n - 1, 0
    while odd % 2 == 0:
        odd, halvings = odd // 2, halvings + 1
    for base in (2, 3, 5, 7):
        power = pow(base, odd, n)
        if power not in (1, n - 1) and not any(
                pow(base, odd << k, n) == n - 1 for k in range(1, halvings)):
            return False
    return True


class IsPrimeTest(unittest.TestCase):
    def test_small_numbers(self):
        primes = [n for n in range(60) if is_prime(n)]
        self.assertEqual(primes, [2, 3, 5, 7, 11, 13, 17, 19, 23, 29, 31, 37, 41, 43, 47, 53, 59])

    def test_zero_and_one_are_no_primes(self):
        self.assertIs(is_prime(0), False)
        self.assertIs(is_prime(1), False)

    def test_against_a_sieve(self):
        size = 20000
        prime = [False, False] + [True] * (size - 2)
        for n in range(2, 142):
            if prime[n]:
                for multiple in range(n * n, size, n):
                    prime[multiple] = False
        self.assertEqual([is_prime(n) for n in range(size)], prime)

    def test_squares_and_products_of_primes(self):
        primes = [2, 3, 5, 7, 11, 101, 10007, 31607, 44701]
        for a in primes:
            for b in primes:
                with self.subTest(a=a, b=b):
                    self.assertIs(is_prime(a * b), False)

    def test_carmichael_numbers(self):
        for n in (561, 1105, 1729, 41041, 825265, 321197185):
            self.assertIs(is_prime(n), False)

    def test_great_numbers(self):
        for n in (GREATEST_PRIME, 10 ** 9 + 7, 10 ** 9 + 9, TOP - 27):
            self.assertIs(is_prime(n), True)
        for n in (10 ** 9, 10 ** 9 - 1, 44711 * 44729, 44701 ** 2, 3 * 666666667, TOP - 1, TOP - 2):
            self.assertIs(is_prime(n), False)

    def test_numbers_close_below_the_bound(self):
        for n in range(TOP - 201, TOP, 2):
            with self.subTest(n):
                self.assertIs(is_prime(n), passes_as_prime(n))


class InverseOfTest(unittest.TestCase):
    def test_modulus_two(self):
        self.assertIsNone(inverse_of(0, 2))
        self.assertEqual(inverse_of(1, 2), 1)

    def test_all_numbers_of_small_moduli(self):
        for modulus in range(2, 60):
            for n in range(modulus):
                with self.subTest(n=n, modulus=modulus):
                    right = [k for k in range(modulus) if n * k % modulus == 1]
                    self.assertEqual(inverse_of(n, modulus), right[0] if right else None)

    def test_zero_one_and_the_last_number(self):
        for modulus in (2, 3, 4, 10, 97, 1000, GREATEST_PRIME, 10 ** 9):
            with self.subTest(modulus):
                self.assertIsNone(inverse_of(0, modulus))
                self.assertEqual(inverse_of(1, modulus), 1)
                self.assertEqual(inverse_of(modulus - 1, modulus), modulus - 1)

    def test_great_moduli(self):
        for modulus in (10 ** 9, GREATEST_PRIME, 2 ** 29, 3 ** 18, 999999999):
            for n in (2, 3, 5, 7, 10, 12345, 333667, 500000000, 99999999, modulus - 2, modulus // 2):
                with self.subTest(n=n, modulus=modulus):
                    found = inverse_of(n, modulus)
                    if gcd(n, modulus) > 1:
                        self.assertIsNone(found)
                    else:
                        self.assertTrue(0 < found < modulus)
                        self.assertEqual(n * found % modulus, 1)

    def test_numbers_with_a_common_divisor(self):
        for n, modulus in ((2, 4), (6, 9), (10, 15), (5, 10 ** 9), (10 ** 9 - 2, 10 ** 9), (49, 7 ** 5)):
            self.assertIsNone(inverse_of(n, modulus))


def value_of(polynomial, prime, x, y):
    """polynomial[i][j] is the coefficient of x to the power i times y to the power j."""
    return sum(c * pow(x, i, prime) * pow(y, j, prime)
               for i, row in enumerate(polynomial) for j, c in enumerate(row)) % prime


def some_polynomial(size, prime, seed):
    return [[(31 * i * i + 17 * j + 7 * i * j + seed) ** 3 % prime for j in range(size)] for i in range(size)]


def table_of(polynomial, prime):
    size = len(polynomial)
    return tuple(tuple(value_of(polynomial, prime, i, j) for j in range(size)) for i in range(size))


class InterpolateTest(unittest.TestCase):
    def test_everywhere_over_small_primes(self):
        for prime in (2, 3, 5, 7, 11):
            for size in range(1, prime + 1):
                polynomial = some_polynomial(size, prime, prime + size)
                table = table_of(polynomial, prime)
                for x in range(prime):
                    for y in range(prime):
                        with self.subTest(prime=prime, size=size, x=x, y=y):
                            self.assertEqual(interpolate(table, prime, x, y), value_of(polynomial, prime, x, y))

    def test_over_great_primes(self):
        for prime in (83, 10007, GREATEST_PRIME):
            for size in (1, 2, 3, 6, 40):
                polynomial = some_polynomial(size, prime, size)
                table = table_of(polynomial, prime)
                for x in (0, size - 1, size, size + 1, prime // 2, prime - 1):
                    for y in (0, size - 1, size, prime // 3, prime - 2, prime - 1):
                        with self.subTest(prime=prime, size=size, x=x, y=y):
                            self.assertEqual(interpolate(table, prime, x, y), value_of(polynomial, prime, x, y))

    def test_at_its_own_indexes_it_has_the_values_of_the_table(self):
        for prime in (7, GREATEST_PRIME):
            table = ((1, 6, 0, 3), (2, 2, 5, 1), (0, 0, 4, 6), (5, 3, 1, 2))
            for i in range(4):
                for j in range(4):
                    self.assertEqual(interpolate(table, prime, i, j), table[i][j])

    def test_one_row_is_the_same_everywhere(self):
        for x, y in ((0, 0), (1, 0), (0, 1), (6, 6)):
            self.assertEqual(interpolate(((5,),), 7, x, y), 5)
        self.assertEqual(interpolate(((5,),), GREATEST_PRIME, GREATEST_PRIME - 1, 12345), 5)

    def test_as_many_rows_as_the_prime(self):
        table = ((1, 2, 0), (0, 1, 2), (2, 2, 1))
        for i in range(3):
            for j in range(3):
                self.assertEqual(interpolate(table, 3, i, j), table[i][j])
        for values in range(16):
            table = ((values & 1, values >> 1 & 1), (values >> 2 & 1, values >> 3 & 1))
            self.assertEqual([interpolate(table, 2, i, j) for i in (0, 1) for j in (0, 1)],
                             [table[0][0], table[0][1], table[1][0], table[1][1]])

    def test_known_values_beyond_the_indexes(self):
        self.assertEqual(interpolate(((0, 1), (1, 2)), 11, 4, 5), 9)
        self.assertEqual(interpolate(((0, 0), (0, 1)), 11, 4, 5), 9)
        self.assertEqual(interpolate(((1, 0), (0, 0)), 11, 4, 5), 1)
        self.assertEqual(interpolate(((0, 1), (0, 1)), 11, 4, 5), 5)
        self.assertEqual(interpolate(((0, 0), (1, 1)), 11, 4, 5), 4)

    def test_the_table_stays(self):
        table = ((0, 1), (1, 2))
        before = copy.deepcopy(table)
        interpolate(table, 11, 4, 5)
        self.assertEqual(table, before)


if __name__ == "__main__":
    unittest.main()

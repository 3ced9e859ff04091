"""f1 and the interface: untold/field.py."""

import unittest

from untold.field import inverse, is_prime, power


def by_sieve(most):
    """The primes up to a number."""
    left = list(range(2, most + 1))
    found = []
    while left:
        found.append(left[0])
        left = [n for n in left if n % found[-1]]
    return found


class IsPrime(unittest.TestCase):
    def test_small(self):
        primes = by_sieve(500)
        for n in range(-20, 501):
            self.assertIs(is_prime(n), n in primes, n)

    def test_squares_of_primes(self):
        for n in by_sieve(200):
            self.assertIs(is_prime(n * n), False, n * n)
        self.assertIs(is_prime(9973 * 9973), False)

    def test_near_the_greatest_prime_of_settings(self):
        self.assertEqual([n for n in range(9990, 10040) if is_prime(n)], [10007, 10009, 10037, 10039])

    def test_large(self):
        self.assertIs(is_prime(99999989), True)
        self.assertIs(is_prime(99999971), True)
        self.assertIs(is_prime(99999991), False)
        self.assertIs(is_prime(99999999), False)
        self.assertIs(is_prime(10 ** 8), False)
        self.assertIs(is_prime(9967 * 9973), False)


class Inverse(unittest.TestCase):
    def test_each_number_but_0(self):
        for p in (2, 3, 5, 7, 11, 101, 10007):
            for a in range(1, p):
                b = inverse(p, a)
                self.assertTrue(0 <= b < p, (p, a))
                self.assertEqual(a * b % p, 1, (p, a))


class Power(unittest.TestCase):
    def test_small(self):
        for p in (2, 3, 7, 13):
            for a in range(p):
                for k in range(20):
                    self.assertEqual(power(p, a, k), a ** k % p, (p, a, k))

    def test_k_0_and_a_0(self):
        for p in (2, 7, 10007):
            self.assertEqual(power(p, 0, 0), 1)
            self.assertEqual(power(p, p - 1, 0), 1)
            self.assertEqual(power(p, 0, 1), 0)
            self.assertEqual(power(p, 0, 10 ** 9), 0)

    def test_large_k(self):
        for p in (2, 5, 101, 10007):
            for a in (0, 1, p // 2, p - 1):
                for k in (10 ** 9 - 1, 10 ** 9, 999999937):
                    self.assertEqual(power(p, a, k), pow(a, k, p), (p, a, k))

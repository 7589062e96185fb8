"""Powers and factors, on which several translations rest."""

import unittest

from translatory.fractions import primes
from translatory.powers import factors, power, product_of_powers


class PowersTest(unittest.TestCase):
    def test_powers(self):
        for base in (1, 2, 3, 10, 97):
            for exponent in list(range(20)) + [64, 100, 127, 128, 1000]:
                self.assertEqual(power(base, exponent), base ** exponent)

    def test_products(self):
        self.assertEqual(product_of_powers([], []), 1)
        self.assertEqual(product_of_powers([2, 3, 5], (2, 1, 1)), 60)
        self.assertEqual(product_of_powers([2, 3, 5], (0, 0, 0)), 1)
        # More exponents than bases stand in the values of a target with spare registers.
        self.assertEqual(product_of_powers([2, 3], (1, 1, 9)), 6)

    def test_factors(self):
        small_primes = primes(168)
        for number in list(range(1, 2000)) + [524288, 531441, 994009, 999983, 999997, 999999, 1000000]:
            found = factors(number, small_primes)
            product = 1
            for prime in found:
                product *= prime
                self.assertTrue(all(prime % divisor for divisor in range(2, min(prime, 1001))))
            self.assertEqual(product, number)
            self.assertEqual(found, sorted(found))

"""Point 10: programs of fractions."""

import unittest

from translatory.errors import InvalidMachine
from translatory.fractions import Fractions, exponent, primes
from translatory.running import after, history, last


class MachineTest(unittest.TestCase):
    def refused(self, pairs):
        with self.assertRaises(InvalidMachine):
            Fractions(pairs)

    def test_field(self):
        self.assertEqual(Fractions([(3, 2), (1, 3), (5, 1)]).pairs, ((3, 2), (1, 3), (5, 1)))
        self.assertEqual(Fractions([]).pairs, ())

    def test_numbers_less_than_1(self):
        for pair in [(0, 1), (1, 0), (0, 0), (-1, 2), (2, -1), (-3, -2), (0, 5), (5, 0)]:
            self.refused([pair])
            self.refused([(3, 2), pair])

    def test_common_divisor(self):
        for pair in [(2, 2), (4, 6), (9, 3), (35, 49), (2 * 10 ** 30, 2)]:
            self.refused([pair])
            self.refused([pair, (3, 2)])

    def test_both_1(self):
        self.refused([(1, 1)])
        self.assertEqual(Fractions([(1, 2), (2, 1)]).pairs, ((1, 2), (2, 1)))

    def test_number_of_fractions(self):
        self.assertEqual(len(Fractions([(3, 2)] * 100000).pairs), 100000)
        self.refused([(3, 2)] * 100001)

    def test_the_list_is_copied(self):
        pairs = [(3, 2)]
        machine = Fractions(pairs)
        self.assertEqual(pairs, [(3, 2)])
        pairs[0] = (5, 2)
        pairs.append((1, 1))
        self.assertEqual(machine.pairs, ((3, 2),))
        self.assertEqual(machine.step(2), 3)

    def test_equality(self):
        self.assertEqual(Fractions([(3, 2)]), Fractions([(3, 2)]))
        self.assertNotEqual(Fractions([(3, 2)]), Fractions([(3, 4)]))
        self.assertNotEqual(Fractions([(3, 2), (5, 7)]), Fractions([(5, 7), (3, 2)]))


class StepTest(unittest.TestCase):
    def test_the_first_fraction_that_fits(self):
        machine = Fractions([(5, 6), (7, 2), (11, 3), (1, 5)])
        self.assertEqual(machine.step(6), 5)
        self.assertEqual(machine.step(4), 14)
        self.assertEqual(machine.step(9), 33)
        self.assertEqual(machine.step(18), 15)

    def test_the_order_counts(self):
        self.assertEqual(Fractions([(3, 2), (5, 2)]).step(2), 3)
        self.assertEqual(Fractions([(5, 2), (3, 2)]).step(2), 5)

    def test_no_fraction_fits(self):
        machine = Fractions([(5, 6), (7, 2)])
        self.assertIsNone(machine.step(1))
        self.assertIsNone(machine.step(15))

    def test_no_fraction(self):
        self.assertIsNone(Fractions([]).step(1))
        self.assertEqual(history(Fractions([]), 12, 5), [12])

    def test_a_denominator_of_1_always_fits(self):
        self.assertEqual(after(Fractions([(2, 1)]), 1, 100), 2 ** 100)

    def test_exact_beyond_what_floats_can_hold(self):
        number = 2 * 3 ** 60 + 2
        self.assertEqual(Fractions([(7, 2)]).step(number), number // 2 * 7)

    def test_examples(self):
        self.assertEqual(history(Fractions([(3, 2)]), 12, 5), [12, 18, 27])
        self.assertEqual(last(Fractions([(3, 2)]), 2 ** 30 * 3 ** 12, 100), 3 ** 42)


class PrimesTest(unittest.TestCase):
    def test_few(self):
        self.assertEqual(primes(0), [])
        self.assertEqual(primes(1), [2])
        self.assertEqual(primes(10), [2, 3, 5, 7, 11, 13, 17, 19, 23, 29])

    def test_each_count(self):
        for count in range(60):
            self.assertEqual(primes(count), primes(60)[:count])

    def test_many(self):
        found = primes(10000)
        self.assertEqual(len(found), 10000)
        self.assertEqual(found[-1], 104729)
        self.assertEqual(found[999], 7919)
        self.assertEqual(found, sorted(set(found)))
        for number in found[:500]:
            self.assertTrue(all(number % divisor for divisor in range(2, number)))

    def test_the_list_is_new(self):
        primes(3).append(4)
        self.assertEqual(primes(3), [2, 3, 5])


class ExponentTest(unittest.TestCase):
    def test_not_divided(self):
        for number in (1, 3, 5, 10 ** 20 + 1):
            self.assertEqual(exponent(2, number), 0)
        self.assertEqual(exponent(7, 2 * 3 * 5), 0)

    def test_every_small_power(self):
        for prime in (2, 3, 7, 101):
            for power in range(70):
                self.assertEqual(exponent(prime, prime ** power), power)
                self.assertEqual(exponent(prime, prime ** power * 5 * 11), power)

    def test_high_powers(self):
        self.assertEqual(exponent(2, 2 ** 100000 * 3), 100000)
        self.assertEqual(exponent(3, 3 ** 4095 * 2 ** 17), 4095)
        self.assertEqual(exponent(113, 113 ** 20001), 20001)

"""Points 24 and 25: register programs as fractions, and back."""

import unittest
from math import gcd
from random import Random

from tests.alike import check_alike, check_programs, some_program
from translatory.chains import Chain
from translatory.combinators import Combinators
from translatory.errors import NotFitting, TooLarge
from translatory.following import answer_through, is_same_run, stands_at, total_cost
from translatory.fractionrun import FractionsToRegisters, RegistersToFractions, own_primes
from translatory.fractions import Fractions, primes
from translatory.registers import Registers, adding
from translatory.running import history
from translatory.strings import Strings
from translatory.tags import Tags
from translatory.turing import Turing


def product(values):
    """The product of the first primes to the powers of the values."""
    result = 1
    for prime, value in zip(primes(len(values)), values):
        result *= prime ** value
    return result


def some_fractions(random, length, greatest):
    """A program of fractions in lowest terms."""
    pairs = []
    while len(pairs) < length:
        numerator, denominator = random.randint(1, greatest), random.randint(1, greatest)
        if gcd(numerator, denominator) == 1 and numerator != denominator:
            pairs.append((numerator, denominator))
    return Fractions(pairs)


def program_of_size(count, places):
    """A program with all kinds of instructions and all registers."""
    return Registers(count, [("inc", place % count, (place + 1) % places) if place % 2
                             else ("dec", place % count, place, (place * 3 + 1) % places)
                             for place in range(places)])


class RegistersPictureTest(unittest.TestCase):
    def test_the_example_of_the_interface(self):
        translation = RegistersToFractions(Registers(2, [("dec", 1, 1, 2), ("inc", 0, 0), ("end",)]))
        self.assertEqual(translation.cost((0, (3, 4))), 2)
        self.assertEqual(translation.picture((0, (1, 2))) % 18, 0)

    def test_one_further_prime_for_each_place(self):
        for count in (1, 2, 5, 30):
            translation = RegistersToFractions(program_of_size(count, 12))
            found = set()
            for place in range(12):
                further = set()
                for shift in range(3):
                    values = tuple((index + shift) % 3 for index in range(count))
                    quotient, remainder = divmod(translation.picture((place, values)), product(values))
                    self.assertEqual(remainder, 0)
                    self.assertEqual(translation.read_back(translation.picture((place, values))), (place, values))
                    further.add(quotient)
                self.assertEqual(len(further), 1)
                found |= further
            self.assertEqual(len(found), 12)
            known = primes(1000)
            self.assertTrue(found <= set(known[count:]))

    def test_the_largest_sum(self):
        translation = RegistersToFractions(program_of_size(3, 5))
        for values in [(100000, 0, 0), (0, 0, 100000), (50000, 1, 49999)]:
            self.assertEqual(translation.read_back(translation.picture((4, values))), (4, values))
        for values in [(100001, 0, 0), (0, 0, 100001), (50000, 2, 49999), (0, 10 ** 30, 0)]:
            with self.assertRaises(TooLarge) as caught:
                translation.picture((4, values))
            self.assertEqual(caught.exception.limit, 100000)

    def test_the_picture_after_the_largest_sum_is_refused(self):
        translation = RegistersToFractions(Registers(1, [("inc", 0, 0)]))
        self.assertTrue(is_same_run(translation, (0, (99999,)), 1))
        with self.assertRaises(TooLarge):
            is_same_run(translation, (0, (100000,)), 1)

    def test_fields(self):
        translation = RegistersToFractions(adding())
        self.assertEqual(translation.source, adding())
        self.assertEqual(translation.target, RegistersToFractions(adding()).target)


class RegistersRunTest(unittest.TestCase):
    def test_small_programs(self):
        sizes = [(count, places) for count in range(1, 6) for places in range(1, 9)]
        check_programs(self, RegistersToFractions, sizes * 3, steps=15, greatest=4)

    def test_each_step_costs_two_and_the_end_nothing(self):
        random = Random(6)
        for _ in range(20):
            machine = some_program(random, 3, 6)
            translation = RegistersToFractions(machine)
            begin = (0, (1, 2, 0))
            run = history(machine, begin, 20)
            for configuration in run:
                if machine.step(configuration) is None:
                    self.assertEqual(translation.last_steps(configuration), 0)
                else:
                    self.assertEqual(translation.cost(configuration), 2)
            self.assertEqual(history(translation.target, translation.picture(begin), 2 * (len(run) - 1))[::2],
                             [translation.picture(configuration) for configuration in run])

    def test_instructions_that_go_on_at_their_own_place(self):
        translation = RegistersToFractions(Registers(2, [("inc", 1, 0), ("dec", 0, 1, 1), ("dec", 0, 2, 0)]))
        for place in range(3):
            self.assertEqual(check_alike(self, translation, (place, (3, 0)), 9), 9)

    def test_the_fractions_are_in_lowest_terms(self):
        for numerator, denominator in RegistersToFractions(program_of_size(4, 9)).target.pairs:
            self.assertEqual(gcd(numerator, denominator), 1)
            self.assertNotEqual(numerator, denominator)

    def test_the_answer(self):
        translation = RegistersToFractions(adding())
        self.assertEqual(answer_through(translation, (0, (3, 4)), 18), (2, (7, 0)))
        self.assertEqual(total_cost(translation, (0, (3, 4)), 100), 18)
        self.assertEqual(stands_at(translation, (0, (3, 4)), 2), translation.picture((0, (4, 3))))

    def test_the_largest(self):
        translation = RegistersToFractions(program_of_size(30, 1000))
        self.assertEqual(check_alike(self, translation, (998, (1, 2) * 15), 20), 20)

    def test_others(self):
        for machine in [program_of_size(31, 5), program_of_size(2, 1001), Registers(31, [("end",)]),
                        Turing(1, 2, []), Fractions([]), Tags([]), Strings([]), Combinators("SK")]:
            with self.assertRaises(NotFitting):
                RegistersToFractions(machine)


class OwnPrimesTest(unittest.TestCase):
    def test_some(self):
        for pairs, expected in [
                ([], []), ([(2, 1)], [2]), ([(1, 3)], [3]), ([(10, 3), (1, 7)], [2, 3, 5, 7]),
                ([(49, 6), (5, 1)], [2, 3, 5, 7]), ([(1, 524288)], [2]), ([(531441, 1)], [3]),
                ([(994009, 2)], [2, 997]), ([(1, 999983)], [999983]), ([(999983, 999979)], [999979, 999983]),
                ([(1000000, 999999)], [2, 3, 5, 7, 11, 13, 37]), ([(999997, 1)], [757, 1321]),
                ([(3, 2), (3, 2), (2, 3)], [2, 3])]:
            self.assertEqual(own_primes(Fractions(pairs)), expected)

    def test_all_small_numbers(self):
        machine = Fractions([(number, number + 1) for number in range(1, 1000)])
        self.assertEqual(own_primes(machine), primes(168))

    def test_a_new_list_each_time(self):
        machine = Fractions([(3, 2)])
        own_primes(machine).clear()
        self.assertEqual(own_primes(machine), [2, 3])


class FractionsPictureTest(unittest.TestCase):
    def test_the_example_of_the_interface(self):
        translation = FractionsToRegisters(Fractions([(10, 3), (1, 7)]))
        self.assertEqual(translation.picture(2 * 3 * 3 * 7)[1][:4], (1, 2, 0, 1))

    def test_exponents(self):
        random = Random(7)
        for _ in range(60):
            machine = some_fractions(random, random.randint(0, 5), 60)
            translation = FractionsToRegisters(machine)
            own = own_primes(machine)
            count = translation.target.count
            self.assertTrue(max(1, len(own)) <= count <= len(own) + 3)
            places = set()
            for _ in range(5):
                exponents = tuple(random.randrange(5) for _ in own)
                number = 1
                for prime, times in zip(own, exponents):
                    number *= prime ** times
                place, values = translation.picture(number)
                places.add(place)
                self.assertEqual(values, exponents + (0,) * (count - len(own)))
                self.assertTrue(translation.target.is_configuration((place, values)))
                self.assertEqual(translation.read_back((place, values)), number)
            self.assertEqual(len(places), 1)

    def test_another_prime_factor(self):
        translation = FractionsToRegisters(Fractions([(10, 3), (1, 7)]))
        for number in (11, 22, 3 * 13, 2 * 3 * 5 * 7 * 11, 10 ** 30 + 57):
            with self.assertRaises(NotFitting):
                translation.picture(number)
        with self.assertRaises(NotFitting):
            FractionsToRegisters(Fractions([])).picture(2)
        with self.assertRaises(NotFitting):
            is_same_run(translation, 11, 1)

    def test_fields(self):
        machine = Fractions([(10, 3), (1, 7)])
        translation = FractionsToRegisters(machine)
        self.assertEqual(translation.source, machine)
        self.assertEqual(translation.target, FractionsToRegisters(machine).target)


class FractionsRunTest(unittest.TestCase):
    def test_small_programs(self):
        random = Random(8)
        for greatest in (4, 10, 40):
            for _ in range(60):
                machine = some_fractions(random, random.randint(0, 6), greatest)
                translation = FractionsToRegisters(machine)
                for _ in range(3):
                    number = 1
                    for prime in own_primes(machine):
                        number *= prime ** random.randrange(4)
                    check_alike(self, translation, number, 12)
                    self.assertTrue(is_same_run(translation, number, 12))

    def test_no_fractions(self):
        translation = FractionsToRegisters(Fractions([]))
        self.assertEqual(check_alike(self, translation, 1, 5), 0)
        self.assertEqual(answer_through(translation, 1, 5), 1)

    def test_denominators_of_1(self):
        translation = FractionsToRegisters(Fractions([(1, 4), (6, 1), (5, 3)]))
        for number in (1, 2, 4, 8, 45, 64):
            self.assertEqual(check_alike(self, translation, number, 20), 20)

    def test_powers_of_primes(self):
        translation = FractionsToRegisters(Fractions([(81, 64), (25, 9), (7, 125), (8, 49)]))
        for two in range(8):
            for three in range(4):
                for five in range(4):
                    check_alike(self, translation, 2 ** two * 3 ** three * 5 ** five, 8)

    def test_denominators_of_several_primes(self):
        translation = FractionsToRegisters(Fractions([(7, 60), (11, 18), (13, 50), (1, 30)]))
        for two in range(4):
            for three in range(4):
                for five in range(4):
                    check_alike(self, translation, 2 ** two * 3 ** three * 5 ** five, 8)

    def test_the_answer(self):
        # Adds the exponent of 3 to that of 2.
        translation = FractionsToRegisters(Fractions([(2, 3)]))
        steps = total_cost(translation, 2 ** 3 * 3 ** 4, 9) + translation.last_steps(2 ** 7)
        self.assertEqual(answer_through(translation, 2 ** 3 * 3 ** 4, steps), 2 ** 7)


class FractionsFittingTest(unittest.TestCase):
    def refused(self, machine):
        with self.assertRaises(NotFitting):
            FractionsToRegisters(machine)

    def test_the_largest_numbers(self):
        translation = FractionsToRegisters(Fractions([(1000000, 999999), (1, 1000000)]))
        check_alike(self, translation, 999999, 9)
        check_alike(self, translation, 999999 ** 2 * 37, 9)
        for pair in [(1000001, 1), (1, 1000001), (1000003, 2), (2, 10 ** 40 + 1)]:
            self.refused(Fractions([(3, 2), pair]))

    def test_the_largest_number_of_fractions(self):
        check_alike(self, FractionsToRegisters(Fractions([(3, 2)] * 2000)), 2 ** 3 * 3, 9)
        self.refused(Fractions([(3, 2)] * 2001))

    def test_the_longest_instructions(self):
        translation = FractionsToRegisters(Fractions([(531441, 524288)] * 2000))
        check_alike(self, translation, 2 ** 40, 9)

    def test_the_largest_number_of_primes(self):
        found = primes(1002)
        translation = FractionsToRegisters(Fractions(list(zip(found[:999], found[1:1000]))))
        self.assertEqual(translation.picture(found[999] ** 2)[1], (0,) * 999 + (2,) + translation.picture(1)[1][1000:])
        check_alike(self, translation, 7 ** 2 * found[999], 4)
        self.refused(Fractions(list(zip(found[:1000], found[1:1001]))))

    def test_others(self):
        for machine in [adding(), Turing(1, 2, []), Tags([]), Strings([]), Combinators("SK")]:
            self.refused(machine)


class ThereAndBackTest(unittest.TestCase):
    """Register programs as fractions, and these as register programs."""

    def chain(self, machine):
        first = RegistersToFractions(machine)
        return Chain([first, FractionsToRegisters(first.target)])

    def test_small_programs(self):
        random = Random(9)
        for count in range(1, 4):
            for places in range(1, 6):
                # All registers and places are named, so all configurations have a picture.
                machine = some_program(random, count, places)
                named = [("inc", which, place) for which in range(count) for place in range(places)]
                machine = Registers(count, machine.instructions + tuple(named))
                chain = self.chain(machine)
                for place in range(len(machine.instructions)):
                    begin = (place, tuple(random.randrange(3) for _ in range(count)))
                    if machine.instructions[place] == ("end",) or place < places:
                        check_alike(self, chain, begin, 6)
                        self.assertTrue(is_same_run(chain, begin, 6))

    def test_a_named_end_and_a_place_that_is_not_named(self):
        machine = Registers(2, [("dec", 1, 1, 3), ("inc", 0, 1), ("inc", 1, 0), ("end",)])
        chain = self.chain(machine)
        for place in range(4):
            check_alike(self, chain, (place, (2, 3)), 9)

    def test_the_answer(self):
        chain = self.chain(adding())
        steps = total_cost(chain, (0, (3, 4)), 99) + chain.last_steps((2, (7, 0)))
        self.assertEqual(answer_through(chain, (0, (3, 4)), steps), (2, (7, 0)))

    def test_a_register_that_is_named_by_no_instruction(self):
        chain = self.chain(Registers(3, [("dec", 0, 0, 1), ("end",)]))
        check_alike(self, chain, (0, (5, 0, 0)), 9)
        with self.assertRaises(NotFitting):
            chain.picture((0, (5, 0, 1)))

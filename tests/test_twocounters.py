"""Point 21: register programs with two registers."""

import unittest
from random import Random

from tests.alike import check_alike, check_programs, some_program
from translatory.combinators import Combinators
from translatory.errors import NotFitting, TooLarge
from translatory.following import answer_through, is_same_run, total_cost
from translatory.fractions import Fractions
from translatory.registers import Registers, adding
from translatory.strings import Strings
from translatory.tags import Tags
from translatory.turing import Turing
from translatory.twocounters import RegistersToCounters

PRIMES = [2, 3, 5, 7, 11, 13, 17, 19]


def program_of_size(count, places):
    """A program with all kinds of instructions and all registers."""
    instructions = []
    for place in range(places):
        which = place % count
        if place % 3 == 0:
            instructions.append(("inc", which, (place * 5 + 1) % places))
        else:
            instructions.append(("dec", which, (place + 1) % places, (place * 7) % places))
    return Registers(count, instructions)


class PictureTest(unittest.TestCase):
    def test_the_example_of_the_interface(self):
        translation = RegistersToCounters(Registers(3, [("end",)]))
        self.assertEqual(translation.picture((0, (2, 1, 1)))[1], (60, 0))

    def test_values(self):
        for count in range(1, 9):
            translation = RegistersToCounters(program_of_size(count, 4))
            self.assertEqual(translation.target.count, 2)
            for first in range(count):
                values = tuple((index - first) % 4 for index in range(count))
                product = 1
                for prime, value in zip(PRIMES, values):
                    product *= prime ** value
                picture = translation.picture((2, values))
                self.assertEqual(picture[1], (product, 0))
                self.assertTrue(translation.target.is_configuration(picture))
                self.assertEqual(translation.read_back(picture), (2, values))

    def test_the_place_depends_on_the_place_alone(self):
        translation = RegistersToCounters(program_of_size(2, 30))
        found = [{translation.picture((place, values))[0] for values in [(0, 0), (3, 1), (0, 9)]}
                 for place in range(30)]
        self.assertEqual({len(places) for places in found}, {1})
        self.assertEqual(len(set.union(*found)), 30)

    def test_the_largest_sum(self):
        translation = RegistersToCounters(program_of_size(8, 3))
        for values in [(0,) * 7 + (100000,), (50000, 49999, 0, 0, 0, 0, 0, 1), (100000,) + (0,) * 7]:
            picture = translation.picture((0, values))
            self.assertEqual(translation.read_back(picture), (0, values))
        for values in [(0,) * 7 + (100001,), (50000, 50000, 0, 0, 0, 0, 0, 1), (10 ** 30,) + (0,) * 7]:
            with self.assertRaises(TooLarge) as caught:
                translation.picture((0, values))
            self.assertEqual(caught.exception.limit, 100000)

    def test_fields(self):
        translation = RegistersToCounters(adding())
        self.assertEqual(translation.source, adding())
        self.assertEqual(translation.target, RegistersToCounters(adding()).target)


class RunTest(unittest.TestCase):
    def test_small_programs(self):
        sizes = [(count, places) for count in range(1, 5) for places in range(1, 9)]
        check_programs(self, RegistersToCounters, sizes, steps=5, greatest=1)
        check_programs(self, RegistersToCounters, [(1, 4), (2, 5), (3, 6)] * 10, steps=4, greatest=2)

    def test_many_registers(self):
        for count in range(5, 9):
            for which in range(count):
                machine = Registers(count, [("inc", which, 1), ("dec", which, 2, 2), ("dec", which, 2, 3), ("end",)])
                values = [0] * count
                values[0] = 1
                check_alike(self, RegistersToCounters(machine), (0, tuple(values)), 4)

    def test_instructions_that_go_on_at_their_own_place(self):
        machine = Registers(2, [("inc", 0, 0), ("dec", 1, 1, 1)])
        translation = RegistersToCounters(machine)
        self.assertEqual(check_alike(self, translation, (0, (0, 1)), 4), 4)
        self.assertEqual(check_alike(self, translation, (1, (1, 2)), 6), 6)

    def test_an_end_at_once(self):
        translation = RegistersToCounters(Registers(2, [("end",)]))
        self.assertEqual(check_alike(self, translation, (0, (2, 3)), 4), 0)

    def test_following(self):
        random = Random(3)
        for _ in range(30):
            machine = some_program(random, 2, 5)
            translation = RegistersToCounters(machine)
            for count in (0, 2, 5):
                self.assertTrue(is_same_run(translation, (random.randrange(5), (1, 2)), count))

    def test_the_answer(self):
        translation = RegistersToCounters(adding())
        begin = (0, (1, 3))
        steps = total_cost(translation, begin, 100)
        self.assertEqual(answer_through(translation, begin, steps), (2, (4, 0)))


class SizeTest(unittest.TestCase):
    def bound(self, machine):
        """The most instructions that the target may have."""
        return (10 + 4 * sum(PRIMES[:machine.count])) * len(machine.instructions)

    def test_the_number_of_instructions(self):
        random = Random(4)
        for count in range(1, 9):
            last = count - 1
            for machine in [program_of_size(count, 20), some_program(random, count, 10),
                            Registers(count, [("end",)]), Registers(count, [("inc", last, 0)]),
                            Registers(count, [("dec", last, 0, 0)]),
                            Registers(count, [("dec", last, 0, 0)] * 50)]:
                target = RegistersToCounters(machine).target
                self.assertLessEqual(len(target.instructions), self.bound(machine))

    def test_the_largest(self):
        for machine in [program_of_size(8, 400), Registers(8, [("dec", 7, 0, 0)] * 400)]:
            translation = RegistersToCounters(machine)
            self.assertEqual(translation.target.count, 2)
            self.assertLessEqual(len(translation.target.instructions), self.bound(machine))
            check_alike(self, translation, (399, (1, 0, 0, 0, 0, 0, 0, 1)), 3)

    def test_others(self):
        for machine in [program_of_size(9, 5), program_of_size(2, 401), Registers(9, [("end",)]),
                        Turing(1, 2, []), Fractions([]), Tags([]), Strings([]), Combinators("SK")]:
            with self.assertRaises(NotFitting):
                RegistersToCounters(machine)

"""Point 22: two counters as Turing machines, and point 23: the chain that leads there from a tape."""

import unittest
from random import Random

from tests.alike import check_alike, check_programs, some_program
from translatory.chains import Chain
from translatory.combinators import Combinators
from translatory.countertapes import CountersToTuring
from translatory.errors import NotFitting, TooLarge, TooLong
from translatory.following import answer_through, is_same_run, stands_at, total_cost
from translatory.fractions import Fractions
from translatory.registers import Registers, adding
from translatory.running import after, last
from translatory.strings import Strings
from translatory.tags import Tags
from translatory.tapenumbers import TuringToRegisters
from translatory.turing import Turing, start
from translatory.twocounters import RegistersToCounters


def long_program(places):
    """A program of two registers whose instructions all lead to other places."""
    return Registers(2, [("dec", place % 2, place * 7 % places, (place + 1) % places)
                         for place in range(places)])


class PictureTest(unittest.TestCase):
    def test_marks_on_both_sides_of_the_middle(self):
        translation = CountersToTuring(adding())
        self.assertEqual(translation.target.symbols, 3)
        for left in range(4):
            for right in range(4):
                picture = translation.picture((1, (left, right)))
                self.assertEqual(picture[1:], ((1,) * left, 2, (1,) * right))
                self.assertTrue(translation.target.is_configuration(picture))
                self.assertEqual(translation.read_back(picture), (1, (left, right)))

    def test_the_state_depends_on_the_place_alone(self):
        translation = CountersToTuring(long_program(40))
        found = [{translation.picture((place, values))[0] for values in [(0, 0), (3, 1), (0, 9)]}
                 for place in range(40)]
        self.assertEqual({len(states) for states in found}, {1})
        self.assertEqual(len(set.union(*found)), 40)

    def test_the_largest_sum(self):
        translation = CountersToTuring(adding())
        for values in [(100000, 0), (0, 100000), (99999, 1)]:
            self.assertEqual(translation.read_back(translation.picture((0, values))), (0, values))
        for values in [(100001, 0), (0, 100001), (100000, 1), (0, 10 ** 30)]:
            with self.assertRaises(TooLarge) as caught:
                translation.picture((0, values))
            self.assertEqual(caught.exception.limit, 100000)

    def test_fields(self):
        translation = CountersToTuring(adding())
        self.assertEqual(translation.source, adding())
        self.assertIsInstance(translation.target, Turing)
        self.assertEqual(translation.target, CountersToTuring(adding()).target)


class RunTest(unittest.TestCase):
    def test_small_programs(self):
        check_programs(self, CountersToTuring, [(2, places) for places in range(1, 9)] * 12, steps=12)

    def test_each_instruction(self):
        for which in (0, 1):
            machine = Registers(2, [("inc", which, 1), ("dec", which, 2, 0), ("dec", which, 2, 3), ("end",)])
            for left in range(4):
                for right in range(4):
                    for place in range(4):
                        check_alike(self, CountersToTuring(machine), (place, (left, right)), 12)

    def test_instructions_that_go_on_at_their_own_place(self):
        translation = CountersToTuring(Registers(2, [("inc", 1, 0), ("dec", 0, 1, 1)]))
        self.assertEqual(check_alike(self, translation, (0, (2, 0)), 8), 8)
        self.assertEqual(check_alike(self, translation, (1, (2, 3)), 8), 8)

    def test_following(self):
        random = Random(5)
        for _ in range(30):
            translation = CountersToTuring(some_program(random, 2, 5))
            for count in (0, 3, 9):
                self.assertTrue(is_same_run(translation, (random.randrange(5), (2, 1)), count))

    def test_the_answer(self):
        translation = CountersToTuring(adding())
        self.assertEqual(answer_through(translation, (0, (3, 4)), 1000), (2, (7, 0)))


class FittingTest(unittest.TestCase):
    def test_the_largest(self):
        translation = CountersToTuring(long_program(3000))
        check_alike(self, translation, (2998, (3, 2)), 5)

    def test_others(self):
        for machine in [Registers(1, [("end",)]), Registers(3, [("end",)]), long_program(3001),
                        Turing(1, 2, []), Fractions([]), Tags([]), Strings([]), Combinators("SK")]:
            with self.assertRaises(NotFitting):
                CountersToTuring(machine)


class ThreeTranslationsTest(unittest.TestCase):
    """From a tape to numbers, to two counters, and back to a tape."""

    def chain(self, machine):
        first = TuringToRegisters(machine)
        second = RegistersToCounters(first.target)
        return Chain([first, second, CountersToTuring(second.target)])

    def test_fields(self):
        machine = Turing(1, 2, [(0, 1, 0, 1, 0)])
        chain = self.chain(machine)
        self.assertEqual(chain.source, machine)
        self.assertIsInstance(chain.target, Turing)
        self.assertEqual(chain.target.symbols, 3)

    def test_pictures(self):
        chain = self.chain(Turing(1, 2, [(0, 1, 0, 1, 0)]))
        # The numbers of the sides are 2 and 3.
        picture = chain.picture((0, (0, 1), 1, (1, 1)))
        self.assertEqual(picture[1:], ((1,) * (2 ** 2 * 3 ** 3), 2, ()))
        self.assertEqual(chain.read_back(picture), (0, (0, 1), 1, (1, 1)))

    def test_a_few_steps(self):
        for machine, begin, steps in [
                (Turing(1, 2, [(0, 1, 0, 1, 0)]), start((1, 1)), 3),
                (Turing(1, 2, [(0, 1, 1, -1, 0)]), (0, (1,), 1, ()), 3),
                (Turing(2, 2, [(0, 1, 1, 1, 0), (0, 0, 1, -1, 1), (1, 1, 0, -1, 1), (1, 0, 1, 0, 0)]),
                 start((1,)), 4),
                (Turing(2, 3, [(0, 1, 2, 1, 0), (0, 0, 1, -1, 1), (1, 2, 0, -1, 1)]), start((1,)), 3)]:
            chain = self.chain(machine)
            self.assertGreaterEqual(check_alike(self, chain, begin, steps), 2)
            self.assertTrue(is_same_run(chain, begin, steps))

    def test_following(self):
        machine = Turing(1, 2, [(0, 1, 0, 1, 0)])
        chain = self.chain(machine)
        begin = start((1, 1))
        self.assertEqual(stands_at(chain, begin, 1), chain.picture(after(machine, begin, 1)))
        steps = total_cost(chain, begin, 9)
        self.assertEqual(answer_through(chain, begin, steps), last(machine, begin, 9))
        with self.assertRaises(TooLong):
            answer_through(chain, begin, steps - 1)

    def test_a_refused_picture(self):
        chain = self.chain(Turing(1, 2, [(0, 1, 0, 1, 0)]))
        with self.assertRaises(TooLarge):
            chain.picture(start((1,) * 17))
        with self.assertRaises(TooLarge):
            is_same_run(chain, start((1,) * 17), 1)

"""Point 20: Turing machines as register programs."""

import unittest
from random import Random

from tests.alike import check_alike, check_tapes, some_tape, some_turing, turing_of_size
from translatory.errors import NotFitting
from translatory.following import answer_through, is_same_run, stands_at, total_cost
from translatory.fractions import Fractions
from translatory.registers import Registers, adding
from translatory.running import last
from translatory.strings import Strings
from translatory.tags import Tags
from translatory.tapenumbers import TuringToRegisters
from translatory.turing import Turing, number_of, start


class PictureTest(unittest.TestCase):
    def test_the_example_of_the_interface(self):
        translation = TuringToRegisters(Turing(1, 3, [(0, 1, 2, 1, 0)]))
        self.assertEqual(translation.picture((0, (2, 1), 1, (1, 0, 2)))[1][:2], (5, 19))
        picture = translation.picture((0, (), 2, (1,)))
        self.assertEqual(translation.read_back(picture), (0, (), 2, (1,)))

    def test_values(self):
        random = Random(1)
        for symbols in range(2, 9):
            translation = TuringToRegisters(some_turing(random, 3, symbols))
            self.assertLessEqual(translation.target.count, 4)
            for _ in range(20):
                configuration = some_tape(random, translation.source, 6)
                picture = translation.picture(configuration)
                values = picture[1]
                self.assertEqual(values[0], number_of(configuration[1], symbols))
                self.assertEqual(values[1], number_of(configuration[3], symbols))
                self.assertEqual(set(values[2:]), {0})
                self.assertTrue(translation.target.is_configuration(picture))
                self.assertEqual(translation.read_back(picture), configuration)

    def test_the_place_depends_on_state_and_symbol_alone(self):
        translation = TuringToRegisters(turing_of_size(4, 8))
        places = {}
        for state in range(4):
            for here in range(8):
                found = {translation.picture((state, left, here, right))[0]
                         for left in [(), (1,), (0, 7)] for right in [(), (3, 0, 1), (2,)]}
                self.assertEqual(len(found), 1)
                places[found.pop()] = (state, here)
        self.assertEqual(len(places), 32)

    def test_very_long_sides(self):
        translation = TuringToRegisters(turing_of_size(2, 3))
        configuration = (1, (1,) * 3000, 2, (2,) * 3000)
        self.assertEqual(translation.read_back(translation.picture(configuration)), configuration)
        self.assertEqual(translation.picture(configuration)[1][0], (3 ** 3000 - 1) // 2)

    def test_fields(self):
        machine = turing_of_size(2, 3)
        translation = TuringToRegisters(machine)
        self.assertEqual(translation.source, machine)
        self.assertIsInstance(translation.target, Registers)
        self.assertEqual(TuringToRegisters(turing_of_size(2, 3)).target, translation.target)


class RunTest(unittest.TestCase):
    def test_small_machines_of_all_sizes(self):
        sizes = [(states, symbols) for states in range(1, 5) for symbols in range(2, 9)]
        check_tapes(self, TuringToRegisters, sizes * 3, steps=5, longest=2)

    def test_all_moves_at_both_ends_of_the_tape(self):
        for symbols in (2, 3, 8):
            for written in (0, 1, symbols - 1):
                for move in (-1, 0, 1):
                    machine = Turing(2, symbols, [(0, here, written, move, 1) for here in range(symbols)]
                                     + [(1, 0, 1, -move, 0)])
                    translation = TuringToRegisters(machine)
                    for left in [(), (1,), (0, 1)]:
                        for right in [(), (1,), (0, 1)]:
                            for here in (0, 1, symbols - 1):
                                made = check_alike(self, translation, (0, left, here, right), 4)
                                self.assertGreaterEqual(made, 1)

    def test_a_machine_that_stays_in_place_for_ever(self):
        translation = TuringToRegisters(Turing(1, 2, [(0, 1, 1, 0, 0)]))
        configuration = (0, (1,), 1, (1, 1))
        self.assertEqual(check_alike(self, translation, configuration, 20), 20)
        self.assertTrue(is_same_run(translation, configuration, 1000))

    def test_a_machine_without_rules(self):
        translation = TuringToRegisters(Turing(3, 4, []))
        self.assertEqual(check_alike(self, translation, (2, (1,), 3, (0, 2)), 5), 0)

    def test_following(self):
        random = Random(2)
        for _ in range(30):
            translation = TuringToRegisters(some_turing(random, random.randint(1, 4), random.randint(2, 4)))
            configuration = some_tape(random, translation.source, 2)
            for count in (0, 1, 4):
                self.assertTrue(is_same_run(translation, configuration, count))

    def test_the_answer(self):
        # Adds 1 to a number that stands with the digit that counts least first.
        machine = Turing(2, 3, [(0, 2, 0, 1, 0), (0, 1, 2, 0, 1), (0, 0, 1, 0, 1)])
        translation = TuringToRegisters(machine)
        begin = start((2, 2, 1))
        end = last(machine, begin, 9)
        self.assertEqual(answer_through(translation, begin, total_cost(translation, begin, 9)), end)
        self.assertEqual(stands_at(translation, begin, 9), translation.picture(end))


class FittingTest(unittest.TestCase):
    def test_the_largest(self):
        translation = TuringToRegisters(turing_of_size(100, 8))
        self.assertLessEqual(translation.target.count, 4)
        check_alike(self, translation, (99, (1, 2), 7, (3,)), 4)

    def test_others(self):
        for machine in [turing_of_size(101, 2), turing_of_size(1, 9), Turing(101, 9, []), Turing(1, 9, []),
                        adding(), Registers(2, [("end",)]), Fractions([]), Tags([]), Strings([])]:
            with self.assertRaises(NotFitting):
                TuringToRegisters(machine)

"""Points 8 and 9: programs with registers."""

import unittest

from translatory.errors import InvalidMachine, TooLong
from translatory.registers import Registers, adding
from translatory.running import history, last, length

ADDING = [("dec", 1, 1, 2), ("inc", 0, 0), ("end",)]


class MachineTest(unittest.TestCase):
    def refused(self, count, instructions):
        with self.assertRaises(InvalidMachine):
            Registers(count, instructions)

    def test_fields(self):
        machine = Registers(2, ADDING)
        self.assertEqual(machine.count, 2)
        self.assertEqual(machine.instructions, tuple(ADDING))

    def test_number_of_registers(self):
        for count in (1, 2000):
            self.assertEqual(Registers(count, [("end",)]).count, count)
        for count in (0, -1, 2001, 10 ** 20):
            self.refused(count, [("end",)])

    def test_number_of_instructions(self):
        self.assertEqual(len(Registers(1, [("end",)] * 100000).instructions), 100000)
        self.refused(1, [("end",)] * 100001)
        self.refused(1, [])

    def test_greatest_registers_and_places(self):
        instructions = [("inc", 1999, 2), ("dec", 1999, 2, 2), ("end",)]
        self.assertEqual(Registers(2000, instructions).instructions, tuple(instructions))

    def test_registers_that_are_not_there(self):
        for which in (-1, 2, 2000):
            self.refused(2, [("inc", which, 0)])
            self.refused(2, [("dec", which, 0, 0)])

    def test_places_that_are_not_there(self):
        for place in (-1, 2, 100000):
            self.refused(1, [("end",), ("inc", 0, place)])
            self.refused(1, [("end",), ("dec", 0, place, 0)])
            self.refused(1, [("end",), ("dec", 0, 0, place)])
        self.refused(1, [("inc", 0, 1)])

    def test_an_instruction_that_is_never_reached_counts(self):
        self.refused(1, [("end",), ("inc", 1, 0)])

    def test_the_list_is_copied(self):
        instructions = list(ADDING)
        machine = Registers(2, instructions)
        self.assertEqual(instructions, ADDING)
        instructions[0] = ("end",)
        instructions.append(("inc", 5, 5))
        self.assertEqual(machine.instructions, tuple(ADDING))
        self.assertEqual(last(machine, (0, (3, 4)), 100), (2, (7, 0)))

    def test_equality(self):
        self.assertEqual(Registers(2, ADDING), Registers(2, list(ADDING)))
        self.assertNotEqual(Registers(2, ADDING), Registers(3, ADDING))
        self.assertNotEqual(Registers(2, ADDING), Registers(2, ADDING + [("end",)]))
        self.assertNotEqual(Registers(2, ADDING), Registers(2, [("end",), *ADDING[1:]]))


class StepTest(unittest.TestCase):
    def test_inc(self):
        machine = Registers(3, [("end",), ("inc", 1, 0)])
        self.assertEqual(machine.step((1, (4, 5, 6))), (0, (4, 6, 6)))
        self.assertEqual(machine.step((1, (0, 0, 0))), (0, (0, 1, 0)))

    def test_inc_of_the_first_and_the_last_register(self):
        machine = Registers(3, [("inc", 0, 1), ("inc", 2, 0)])
        self.assertEqual(history(machine, (0, (0, 0, 0)), 2),
                         [(0, (0, 0, 0)), (1, (1, 0, 0)), (0, (1, 0, 1))])

    def test_dec(self):
        machine = Registers(3, [("end",), ("dec", 1, 0, 2), ("end",)])
        self.assertEqual(machine.step((1, (4, 5, 6))), (0, (4, 4, 6)))
        self.assertEqual(machine.step((1, (4, 1, 6))), (0, (4, 0, 6)))

    def test_dec_of_an_empty_register(self):
        machine = Registers(3, [("end",), ("dec", 1, 0, 2), ("end",)])
        self.assertEqual(machine.step((1, (4, 0, 6))), (2, (4, 0, 6)))

    def test_end(self):
        machine = Registers(1, [("inc", 0, 0), ("end",)])
        self.assertIsNone(machine.step((1, (0,))))
        self.assertIsNone(machine.step((1, (9,))))

    def test_great_values(self):
        machine = Registers(1, [("inc", 0, 0), ("dec", 0, 1, 1)])
        self.assertEqual(machine.step((0, (10 ** 40,))), (0, (10 ** 40 + 1,)))
        self.assertEqual(machine.step((1, (10 ** 40,))), (1, (10 ** 40 - 1,)))

    def test_example(self):
        self.assertEqual(last(Registers(2, ADDING), (0, (3, 4)), 100), (2, (7, 0)))
        with self.assertRaises(TooLong):
            last(Registers(1, [("inc", 0, 0)]), (0, (0,)), 100)


class ConfigurationTest(unittest.TestCase):
    def test_right_ones(self):
        machine = Registers(2, ADDING)
        for configuration in [(0, (0, 0)), (2, (0, 5)), (1, (10 ** 30, 0))]:
            self.assertIs(machine.is_configuration(configuration), True)

    def test_wrong_place(self):
        for place in (-1, 3, 100000):
            self.assertIs(Registers(2, ADDING).is_configuration((place, (0, 0))), False)

    def test_wrong_number_of_values(self):
        for values in [(), (1,), (1, 2, 3)]:
            self.assertIs(Registers(2, ADDING).is_configuration((0, values)), False)

    def test_negative_value(self):
        for values in [(-1, 0), (0, -1), (5, -10 ** 20)]:
            self.assertIs(Registers(2, ADDING).is_configuration((0, values)), False)


class AddingTest(unittest.TestCase):
    def test_adds(self):
        self.assertEqual(adding().count, 2)
        for first in (0, 1, 2, 7, 30):
            for second in (0, 1, 2, 9, 40):
                _, values = last(adding(), (0, (first, second)), 10000)
                self.assertEqual(values, (first + second, 0))

    def test_always_the_same_program(self):
        self.assertEqual(adding(), adding())

    def test_great_numbers(self):
        self.assertEqual(last(adding(), (0, (10 ** 30, 3)), 100)[1], (10 ** 30 + 3, 0))
        self.assertIsNotNone(length(adding(), (0, (0, 1000)), 100000))

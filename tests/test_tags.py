"""Point 11: tag systems."""

import unittest

from translatory.errors import InvalidMachine
from translatory.running import after, history, last
from translatory.tags import Tags


class MachineTest(unittest.TestCase):
    def refused(self, productions):
        with self.assertRaises(InvalidMachine):
            Tags(productions)

    def test_field(self):
        self.assertEqual(Tags([(1, 0), None, ()]).productions, ((1, 0), None, ()))
        self.assertEqual(Tags([]).productions, ())

    def test_symbols_that_there_are_not(self):
        for symbol in (-1, 2, 20000):
            self.refused([(symbol,), None])
            self.refused([None, (0, 1, symbol)])
        self.refused([(1,)])

    def test_number_of_productions(self):
        productions = [(19999,)] * 20000
        self.assertEqual(len(Tags(productions).productions), 20000)
        self.refused([None] * 20001)
        self.refused([()] * 20001)

    def test_the_list_is_copied(self):
        productions = [(1, 1), None]
        machine = Tags(productions)
        self.assertEqual(productions, [(1, 1), None])
        productions[0] = (7,)
        productions.append(())
        self.assertEqual(machine.productions, ((1, 1), None))
        self.assertEqual(machine.step((0, 0)), (1, 1))

    def test_equality(self):
        self.assertEqual(Tags([(0,), None]), Tags([(0,), None]))
        self.assertNotEqual(Tags([(0,), None]), Tags([(0,), ()]))
        self.assertNotEqual(Tags([None, (0,)]), Tags([(0,), None]))


class StepTest(unittest.TestCase):
    def test_words_that_are_too_short(self):
        machine = Tags([(0, 0, 0), ()])
        self.assertIsNone(machine.step(()))
        self.assertIsNone(machine.step((0,)))
        self.assertIsNone(machine.step((1,)))
        self.assertIsNone(Tags([]).step(()))

    def test_none(self):
        machine = Tags([None, (0,)])
        self.assertIsNone(machine.step((0, 1)))
        self.assertIsNone(machine.step((0, 1, 1, 1)))
        self.assertEqual(machine.step((1, 0)), (0,))

    def test_empty_production(self):
        machine = Tags([(), (0, 1)])
        self.assertEqual(machine.step((0, 1)), ())
        self.assertEqual(machine.step((0, 1, 1, 0)), (1, 0))
        self.assertEqual(last(machine, (0,) * 9, 10), (0,))

    def test_two_symbols_are_taken_and_the_production_of_the_first_is_put_behind(self):
        machine = Tags([(1, 2), (0,), (2, 2, 2)])
        self.assertEqual(machine.step((0, 1, 2, 2)), (2, 2, 1, 2))
        self.assertEqual(machine.step((1, 0, 2)), (2, 0))
        self.assertEqual(machine.step((2, 0)), (2, 2, 2))

    def test_example(self):
        self.assertEqual(history(Tags([(1, 1), None, (0,)]), (0, 2, 0, 0), 9),
                         [(0, 2, 0, 0), (0, 0, 1, 1), (1, 1, 1, 1)])

    def test_collatz(self):
        machine = Tags([(1, 2), (0,), (0, 0, 0)])
        lengths = [len(word) for word in history(machine, (0,) * 3, 24) if set(word) == {0}]
        self.assertEqual(lengths, [3, 5, 8, 4, 2, 1])

    def test_long_words(self):
        machine = Tags([(1,), None])
        self.assertEqual(after(machine, (0,) * 20000, 10000), (1,) * 10000)
        self.assertEqual(last(machine, (0,) * 20000, 10000), (1,) * 10000)

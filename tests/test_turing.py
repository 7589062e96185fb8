"""Points 5, 6 and 7: Turing machines."""

import unittest

from translatory.errors import InvalidMachine
from translatory.running import after, history
from translatory.turing import Turing, content, number_of, start, symbols_of


class MachineTest(unittest.TestCase):
    def refused(self, states, symbols, rules):
        with self.assertRaises(InvalidMachine):
            Turing(states, symbols, rules)

    def test_fields(self):
        machine = Turing(2, 3, [(0, 1, 2, -1, 1)])
        self.assertEqual((machine.states, machine.symbols), (2, 3))
        self.assertEqual(machine.rules, ((0, 1, 2, -1, 1),))
        self.assertEqual(Turing(1, 2, []).rules, ())

    def test_number_of_states(self):
        for states in (1, 20000):
            self.assertEqual(Turing(states, 2, []).states, states)
        for states in (0, -1, 20001, 10 ** 20):
            self.refused(states, 2, [])

    def test_number_of_symbols(self):
        for symbols in (2, 400):
            self.assertEqual(Turing(1, symbols, []).symbols, symbols)
        for symbols in (1, 0, -1, 401, 10 ** 20):
            self.refused(1, symbols, [])

    def test_greatest_numbers_of_a_rule(self):
        rule = (19999, 399, 399, 1, 19999)
        self.assertEqual(Turing(20000, 400, [rule]).rules, (rule,))

    def test_out_of_range(self):
        self.assertEqual(len(Turing(3, 2, [(2, 1, 1, 0, 2)]).rules), 1)
        for state in (-1, 3):
            self.refused(3, 2, [(state, 0, 0, 0, 0)])
            self.refused(3, 2, [(0, 0, 0, 0, state)])
        for symbol in (-1, 2):
            self.refused(3, 2, [(0, symbol, 0, 0, 0)])
            self.refused(3, 2, [(0, 0, symbol, 0, 0)])
        for move in (-2, 2, 10 ** 20):
            self.refused(3, 2, [(0, 0, 0, move, 0)])

    def test_a_wrong_rule_among_right_ones(self):
        self.refused(2, 2, [(0, 0, 0, 0, 0), (0, 1, 0, 0, 2), (1, 0, 0, 0, 0)])

    def test_a_rule_of_another_number_of_elements(self):
        self.refused(2, 2, [(0, 0, 0, 0)])
        self.refused(2, 2, [(0, 0, 0, 0, 0, 0)])

    def test_two_rules_for_one_place(self):
        self.refused(2, 2, [(0, 1, 0, 0, 0), (0, 1, 1, 0, 0)])
        self.refused(2, 2, [(0, 1, 0, 0, 0), (1, 0, 0, 0, 0), (0, 1, 0, 0, 0)])

    def test_rules_are_ascending(self):
        rules = [(1, 0, 0, 1, 0), (0, 1, 1, -1, 1), (0, 0, 1, 0, 1), (1, 1, 0, 0, 0)]
        machine = Turing(2, 2, rules)
        self.assertEqual(machine.rules, tuple(sorted(rules)))
        self.assertEqual(rules[0], (1, 0, 0, 1, 0))

    def test_equality(self):
        rules = [(1, 0, 0, 1, 0), (0, 1, 1, -1, 1), (0, 0, 1, 0, 1)]
        self.assertEqual(Turing(2, 2, rules), Turing(2, 2, rules[::-1]))
        self.assertNotEqual(Turing(2, 2, rules), Turing(3, 2, rules))
        self.assertNotEqual(Turing(2, 2, rules), Turing(2, 3, rules))
        self.assertNotEqual(Turing(2, 2, rules), Turing(2, 2, rules[1:]))

    def test_the_list_is_copied(self):
        rules = [(0, 1, 0, 1, 0)]
        machine = Turing(1, 2, rules)
        rules[0] = (0, 1, 1, 1, 0)
        rules.append("more")
        self.assertEqual(machine.rules, ((0, 1, 0, 1, 0),))
        self.assertEqual(machine.step((0, (), 1, ())), (0, (), 0, ()))

    def test_rule(self):
        machine = Turing(2, 3, [(0, 1, 2, -1, 1), (1, 2, 0, 0, 0)])
        self.assertEqual(machine.rule(0, 1), (2, -1, 1))
        self.assertEqual(machine.rule(1, 2), (0, 0, 0))
        self.assertIsNone(machine.rule(1, 1))
        self.assertIsNone(machine.rule(0, 2))


class StepTest(unittest.TestCase):
    def stepped(self, written, move, left, right):
        """What comes after the symbol 1 between two sides."""
        machine = Turing(2, 4, [(0, 1, written, move, 1)])
        configuration = machine.step((0, left, 1, right))
        self.assertTrue(machine.is_configuration(configuration))
        return configuration

    def test_right(self):
        self.assertEqual(self.stepped(2, 1, (3,), (3, 2)), (1, (2, 3), 3, (2,)))
        self.assertEqual(self.stepped(2, 1, (), (0, 2)), (1, (2,), 0, (2,)))

    def test_left(self):
        self.assertEqual(self.stepped(2, -1, (3, 2), (3,)), (1, (2,), 3, (2, 3)))
        self.assertEqual(self.stepped(2, -1, (0, 2), ()), (1, (2,), 0, (2,)))

    def test_stay(self):
        self.assertEqual(self.stepped(2, 0, (3, 2), (3,)), (1, (3, 2), 2, (3,)))
        self.assertEqual(self.stepped(0, 0, (), ()), (1, (), 0, ()))

    def test_over_the_ends_of_the_tape(self):
        self.assertEqual(self.stepped(2, 1, (3,), ()), (1, (2, 3), 0, ()))
        self.assertEqual(self.stepped(2, -1, (), (3,)), (1, (), 0, (2, 3)))

    def test_blanks_behind_the_head(self):
        self.assertEqual(self.stepped(0, 1, (), (3,)), (1, (), 3, ()))
        self.assertEqual(self.stepped(0, -1, (3,), ()), (1, (), 3, ()))
        self.assertEqual(self.stepped(0, 1, (), ()), (1, (), 0, ()))
        self.assertEqual(self.stepped(0, -1, (), ()), (1, (), 0, ()))
        self.assertEqual(self.stepped(0, 1, (2,), (3,)), (1, (0, 2), 3, ()))
        self.assertEqual(self.stepped(0, -1, (3,), (2,)), (1, (), 3, (0, 2)))
        self.assertEqual(self.stepped(0, -1, (3,), (0, 2)), (1, (), 3, (0, 0, 2)))

    def test_from_a_blank(self):
        machine = Turing(1, 2, [(0, 0, 0, 1, 0)])
        self.assertEqual(machine.step((0, (), 0, ())), (0, (), 0, ()))
        self.assertEqual(machine.step((0, (), 0, (1,))), (0, (), 1, ()))
        self.assertEqual(machine.step((0, (1,), 0, (0, 1))), (0, (0, 1), 0, (1,)))

    def test_no_rule(self):
        machine = Turing(2, 2, [(0, 1, 1, 1, 1)])
        self.assertIsNone(machine.step((1, (), 1, ())))
        self.assertIsNone(machine.step((0, (), 0, (1,))))

    def test_there_and_back(self):
        machine = Turing(2, 2, [(0, 0, 1, 1, 1), (1, 0, 0, -1, 0)])
        self.assertEqual(history(machine, (0, (), 0, ()), 5),
                         [(0, (), 0, ()), (1, (1,), 0, ()), (0, (), 1, ())])

    def test_example(self):
        self.assertEqual(history(Turing(1, 2, [(0, 1, 0, 1, 0)]), start((1, 1)), 9),
                         [(0, (), 1, (1,)), (0, (), 1, ()), (0, (), 0, ())])

    def test_every_configuration_of_long_runs_is_one(self):
        rules = [(0, 0, 1, 1, 1), (0, 1, 1, -1, 1), (1, 0, 1, -1, 0), (1, 1, 0, 1, 0)]
        machine = Turing(2, 2, rules)
        for configuration in history(machine, start(()), 300):
            self.assertTrue(machine.is_configuration(configuration))

    def test_long_tapes(self):
        machine = Turing(1, 2, [(0, 1, 1, 1, 0)])
        _, left, here, right = after(machine, start((1,) * 20000), 20000)
        self.assertEqual((len(left), here, right), (20000, 0, ()))
        self.assertEqual(content((0, left, here, right)), (1,) * 20000)


class ConfigurationTest(unittest.TestCase):
    def setUp(self):
        self.machine = Turing(2, 3, [])

    def test_right_ones(self):
        for configuration in [(0, (), 0, ()), (1, (0, 2), 2, (2, 0, 0, 1)), (0, (), 0, (1,))]:
            self.assertIs(self.machine.is_configuration(configuration), True)

    def test_wrong_state_or_symbol(self):
        for state in (-1, 2):
            self.assertIs(self.machine.is_configuration((state, (1,), 1, (1,))), False)
        for symbol in (-1, 3):
            self.assertIs(self.machine.is_configuration((0, (1,), symbol, (1,))), False)

    def test_wrong_sides(self):
        for side in [(-1,), (3,), (0,), (1, 0), (3, 1), (1, -1, 1), (0, 0)]:
            self.assertIs(self.machine.is_configuration((0, side, 1, (1,))), False)
            self.assertIs(self.machine.is_configuration((0, (1,), 1, side)), False)


class TapeTest(unittest.TestCase):
    def test_start(self):
        self.assertEqual(start(()), (0, (), 0, ()))
        self.assertEqual(start((2,)), (0, (), 2, ()))
        self.assertEqual(start((1, 2, 3)), (0, (), 1, (2, 3)))

    def test_start_with_blanks(self):
        self.assertEqual(start((0, 1, 0, 2, 0, 0)), (0, (), 0, (1, 0, 2)))
        self.assertEqual(start((1, 0)), (0, (), 1, ()))
        self.assertEqual(start((0,)), (0, (), 0, ()))
        self.assertEqual(start((0, 0, 0)), (0, (), 0, ()))

    def test_content(self):
        self.assertEqual(content((5, (1, 2), 3, (4, 5))), (2, 1, 3, 4, 5))
        self.assertEqual(content((0, (0, 1), 0, (0, 2))), (1, 0, 0, 0, 2))

    def test_content_with_blanks_at_its_ends(self):
        self.assertEqual(content((0, (), 0, ())), ())
        self.assertEqual(content((0, (), 0, (0, 3, 1))), (3, 1))
        self.assertEqual(content((0, (0, 3, 1), 0, ())), (1, 3))
        self.assertEqual(content((0, (), 2, ())), (2,))

    def test_content_of_a_start(self):
        for word in [(), (0,), (0, 0, 1), (1, 0, 0), (0, 2, 0, 1, 0)]:
            trimmed = tuple(int(sign) for sign in "".join(str(s) for s in word).strip("0"))
            self.assertEqual(content(start(word)), trimmed)


class NumberTest(unittest.TestCase):
    def test_example(self):
        self.assertEqual([number_of((1, 0, 2), 3), symbols_of(19, 3)], [19, (1, 0, 2)])

    def test_the_nearest_symbol_counts_least(self):
        self.assertEqual(number_of((1, 0, 0), 2), 1)
        self.assertEqual(number_of((0, 0, 1), 2), 4)
        self.assertEqual(symbols_of(4, 2), (0, 0, 1))

    def test_nothing(self):
        self.assertEqual(number_of((), 2), 0)
        self.assertEqual(symbols_of(0, 2), ())
        self.assertEqual(symbols_of(0, 400), ())

    def test_blanks_at_the_end(self):
        self.assertEqual(number_of((0,), 5), 0)
        self.assertEqual(number_of((3, 1, 0, 0), 5), 8)
        self.assertEqual(symbols_of(number_of((3, 1, 0, 0), 5), 5), (3, 1))

    def test_both_ways_round(self):
        for base in (2, 3, 10, 400):
            for number in range(1000):
                symbols = symbols_of(number, base)
                self.assertEqual(number_of(symbols, base), number)
                self.assertTrue(not symbols or symbols[-1] > 0)
                self.assertTrue(all(0 <= symbol < base for symbol in symbols))

    def test_long_numbers(self):
        number = int("123456789012345678901234567890" * 2)
        self.assertEqual(symbols_of(number, 10), tuple(int(s) for s in reversed(str(number))))
        for base in (2, 7, 399):
            self.assertEqual(number_of(symbols_of(number, base), base), number)
        self.assertEqual(number_of((0,) * 200 + (1,), 2), 2 ** 200)
        self.assertEqual(len(symbols_of(10 ** 59, 10)), 60)

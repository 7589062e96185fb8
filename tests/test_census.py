"""Points 46 and 47: all Turing machines with two symbols in order, and censuses."""

import unittest
from itertools import product
from random import Random

from translatory.census import census, index_of, machine_at, machine_count
from translatory.errors import BadArgument
from translatory.papers import judge
from translatory.running import history
from translatory.turing import Turing

BLANK_TAPE = (0, (), 0, ())


def plain_census(states, first, last, limit):
    """What point 47 says, each machine judged by itself."""
    words = []
    steps, marks = [], []
    for index in range(first, last + 1):
        machine = machine_at(states, index)
        told = judge(machine, BLANK_TAPE, limit)
        words.append(told[0])
        if told[0] == "ends":
            _, left, here, right = history(machine, BLANK_TAPE, limit)[-1]
            steps.append((-told[1], index))
            marks.append((-(sum(left) + here + sum(right)), index))
    greatest = [(-min(rows)[0], min(rows)[1]) if rows else None for rows in (steps, marks)]
    return words.count("ends"), words.count("loops"), words.count("open"), *greatest


class OrderTest(unittest.TestCase):
    def test_counts(self):
        for states, count in [(1, 49), (2, 28561), (3, 47045881), (4, 25 ** 8), (5, 31 ** 10), (6, 37 ** 12)]:
            self.assertEqual(machine_count(states), count)

    def test_all_machines_of_one_state(self):
        machines = [machine_at(1, index) for index in range(49)]
        self.assertEqual([index_of(machine) for machine in machines], list(range(49)))
        self.assertEqual(len({machine.rules for machine in machines}), 49)
        for machine in machines:
            self.assertEqual((machine.states, machine.symbols), (1, 2))

    def test_entries(self):
        # Entry by entry, with the first pair counting least.
        for states in (1, 2, 3, 6):
            base = 6 * states + 1
            for pair, (state, symbol) in enumerate(product(range(states), (0, 1))):
                for following, written, move in product(range(states), (0, 1), (-1, 0, 1)):
                    machine = Turing(states, 2, [(state, symbol, written, move, following)])
                    index = (1 + 3 * (2 * following + written) + move + 1) * base ** pair
                    self.assertEqual(index_of(machine), index)
                    self.assertEqual(machine_at(states, index), machine)

    def test_there_and_back(self):
        random = Random(46)
        for states in range(2, 7):
            count = machine_count(states)
            for index in [0, 1, 6 * states, 6 * states + 1, count // 2, count - 2, count - 1,
                          *[random.randrange(count) for _ in range(300)]]:
                machine = machine_at(states, index)
                self.assertEqual((machine.states, machine.symbols), (states, 2))
                self.assertEqual(index_of(machine), index)

    def test_the_first_and_the_last(self):
        for states in range(1, 7):
            self.assertEqual(machine_at(states, 0), Turing(states, 2, []))
            rules = [(state, symbol, 1, 1, states - 1) for state in range(states) for symbol in (0, 1)]
            self.assertEqual(machine_at(states, machine_count(states) - 1), Turing(states, 2, rules))
            for index in (-1, machine_count(states), machine_count(states) + 1, -machine_count(states)):
                with self.assertRaises(BadArgument):
                    machine_at(states, index)

    def test_states_out_of_range(self):
        for states in (0, 7, -1, 100):
            for call in (lambda: machine_count(states), lambda: machine_at(states, 0), lambda: machine_at(states, -1)):
                with self.assertRaises(BadArgument):
                    call()
        for machine in [Turing(7, 2, []), Turing(20000, 2, []), Turing(1, 3, []), Turing(6, 400, []), Turing(7, 3, []),
                        Turing(2, 3, [(0, 0, 1, 1, 1)])]:
            with self.assertRaises(BadArgument):
                index_of(machine)

    def test_the_example_of_the_interface(self):
        self.assertEqual([machine_at(1, 45).rules, index_of(machine_at(2, 12345))],
                         [((0, 0, 0, 1, 0), (0, 1, 1, 1, 0)), 12345])


class CensusTest(unittest.TestCase):
    def test_against_judging_each_machine(self):
        random = Random(47)
        for states, length, limit in [(1, 49, 20), (1, 49, 0), (2, 400, 30), (2, 400, 3), (2, 300, 0), (3, 300, 40),
                                      (4, 200, 30), (5, 100, 60), (6, 100, 300)]:
            first = random.randrange(machine_count(states) - length + 1)
            found = census(states, first, first + length - 1, limit)
            self.assertEqual(found, plain_census(states, first, first + length - 1, limit))
            self.assertEqual(sum(found[:3]), length)

    def test_the_least_index_of_equal_ones(self):
        # The machines with the index 7 k have no rule for the blank: they end at once, without marks.
        self.assertEqual(census(1, 0, 0, 9), (1, 0, 0, (0, 0), (0, 0)))
        self.assertEqual(census(1, 6, 21, 9), (3, 13, 0, (0, 7), (0, 7)))
        self.assertEqual(census(1, 14, 14, 9)[3:], ((0, 14), (0, 14)))
        for first in range(30):
            self.assertEqual(census(2, first, first + 99, 9), plain_census(2, first, first + 99, 9))

    def test_steps_and_marks_of_different_machines(self):
        # The busiest machine of two states, and one that makes more steps with fewer marks.
        found = census(2, 10000, 11999, 50)
        self.assertEqual(found, plain_census(2, 10000, 11999, 50))
        self.assertNotEqual(found[3], found[4])

    def test_no_run_ends(self):
        for index in (1, 2, 3, 48):
            self.assertEqual(census(1, index, index, 9), (0, 1, 0, None, None))
        self.assertEqual(census(1, 1, 4, 0), (0, 0, 4, None, None))
        machine = Turing(2, 2, [(0, 0, 1, 1, 1), (1, 0, 1, -1, 0)])
        index = index_of(machine)
        self.assertEqual(census(2, index, index, 1), (0, 0, 1, None, None))
        self.assertEqual(census(2, index, index, 3), plain_census(2, index, index, 3))

    def test_a_run_of_the_limit_and_one_step_more(self):
        # Makes three steps: two marks are written, and a state without a rule is come to.
        machine = Turing(3, 2, [(0, 0, 1, 1, 1), (1, 0, 1, -1, 2), (2, 1, 1, 0, 1)])
        index = index_of(machine)
        self.assertEqual(census(3, index, index, 3), (1, 0, 0, (3, index), (2, index)))
        self.assertEqual(census(3, index, index, 2), (0, 0, 1, None, None))

    def test_ranges(self):
        self.assertEqual(sum(census(2, 0, 1999, 5)[:3]), 2000)
        self.assertEqual(sum(census(2, 28561 - 2000, 28560, 5)[:3]), 2000)
        self.assertEqual(sum(census(6, 37 ** 12 - 2000, 37 ** 12 - 1, 2)[:3]), 2000)
        for states, first, last, limit in [
                (2, 0, 2000, 5), (2, 0, 28560, 5), (2, 28561 - 2001, 28560, 5), (2, 5, 4, 5), (2, 1, 0, 5), (1, 48, 0, 5),
                (1, -1, 3, 5), (1, 0, 49, 5), (1, 49, 49, 5), (1, -3, -1, 5), (2, 28000, 28561, 5), (1, 50, 60, 5),
                (0, 0, 0, 5), (7, 0, 0, 5), (-1, 0, 0, 5), (1, 0, 6, -1), (1, 0, 6, 301), (1, 0, 6, 10 ** 9), (2, 0, 2000, -1)]:
            with self.assertRaises(BadArgument):
                census(states, first, last, limit)
        self.assertEqual(census(1, 0, 6, 300), plain_census(1, 0, 6, 300))
        self.assertEqual(census(1, 0, 6, 0), plain_census(1, 0, 6, 0))

    def test_the_example_of_the_interface(self):
        self.assertEqual(census(1, 0, 6, 20), (2, 5, 0, (1, 5), (1, 5)))

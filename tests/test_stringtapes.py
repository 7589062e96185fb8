"""Point 29: Turing machines as string systems."""

import unittest
from random import Random

from tests.alike import check_alike, check_tapes, some_tape, some_turing, turing_of_size
from translatory.binarytapes import TuringToBinary
from translatory.chains import Chain
from translatory.combinators import Combinators
from translatory.errors import NotFitting
from translatory.following import answer_through, is_same_run, stands_at, total_cost
from translatory.fractions import Fractions
from translatory.registers import Registers, adding
from translatory.countertapes import CountersToTuring
from translatory.running import history, last
from translatory.strings import Strings
from translatory.stringtapes import TuringToStrings
from translatory.tags import Tags
from translatory.turing import Turing, start


def signs(translation, symbols):
    """The symbol for each cell of the symbols from 0 on, seen in a picture."""
    return translation.picture((0, (), 0, tuple(range(1, symbols))))[2:-1]


class PictureTest(unittest.TestCase):
    def test_symbol_by_symbol(self):
        random = Random(16)
        for states in (1, 3):
            for symbols in (2, 5, 20):
                translation = TuringToStrings(some_turing(random, states, symbols))
                cells = signs(translation, symbols)
                left_border, *_, right_border = translation.picture((0, (), 0, ()))
                for _ in range(20):
                    configuration = some_tape(random, translation.source, 5)
                    state, left, here, right = configuration
                    sign = translation.picture((state, (), 0, ()))[1]
                    word = ((left_border,) + tuple(cells[symbol] for symbol in reversed(left)) + (sign, cells[here])
                            + tuple(cells[symbol] for symbol in right) + (right_border,))
                    self.assertEqual(translation.picture(configuration), word)
                    self.assertEqual(translation.read_back(word), configuration)

    def test_the_symbols_are_different(self):
        translation = TuringToStrings(turing_of_size(5, 7))
        cells = signs(translation, 7)
        states = [translation.picture((state, (), 0, ()))[1] for state in range(5)]
        left_border, *_, right_border = translation.picture((0, (), 0, ()))
        self.assertEqual(len(set(cells)), 7)
        self.assertEqual(len(set(states)), 5)
        self.assertFalse(set(cells) & {left_border, right_border, *states})
        self.assertFalse(set(states) & {left_border, right_border})

    def test_further_blanks_are_read_back(self):
        translation = TuringToStrings(turing_of_size(3, 4))
        blank = signs(translation, 4)[0]
        for configuration in [(2, (1, 0, 3), 2, (0, 0, 1)), (1, (), 0, ()), (0, (2,), 0, ()), (0, (), 3, (1,))]:
            word = translation.picture(configuration)
            for before in range(4):
                for behind in range(4):
                    longer = word[:1] + (blank,) * before + word[1:-1] + (blank,) * behind + word[-1:]
                    self.assertEqual(translation.read_back(longer), configuration)

    def test_fields(self):
        translation = TuringToStrings(turing_of_size(3, 4))
        self.assertEqual(translation.source, turing_of_size(3, 4))
        self.assertEqual(translation.target, TuringToStrings(turing_of_size(3, 4)).target)


class RunTest(unittest.TestCase):
    def test_small_machines(self):
        sizes = [(states, symbols) for states in range(1, 5) for symbols in (2, 3, 5, 20)]
        check_tapes(self, TuringToStrings, sizes * 6, steps=25, longest=4)

    def test_all_moves_at_both_ends_of_the_tape(self):
        for written in (0, 1, 2):
            for move in (-1, 0, 1):
                machine = Turing(2, 3, [(0, here, written, move, 1) for here in range(3)] + [(1, 0, 1, -move, 0)])
                translation = TuringToStrings(machine)
                for left in [(), (1,), (0, 2)]:
                    for right in [(), (1,), (0, 2)]:
                        for here in range(3):
                            check_alike(self, translation, (0, left, here, right), 5)

    def test_each_step_costs_one_and_the_end_nothing(self):
        random = Random(17)
        for _ in range(20):
            machine = some_turing(random, 3, 3)
            translation = TuringToStrings(machine)
            for configuration in history(machine, some_tape(random, machine, 3), 20):
                if machine.step(configuration) is None:
                    self.assertEqual(translation.last_steps(configuration), 0)
                else:
                    self.assertEqual(translation.cost(configuration), 1)

    def test_further_blanks_after_a_step(self):
        translation = TuringToStrings(Turing(1, 2, [(0, 1, 0, -1, 0)]))
        begin = (0, (1,), 1, ())
        self.assertEqual(check_alike(self, translation, begin, 9), 2)
        self.assertGreater(len(stands_at(translation, begin, 2)), len(translation.picture((0, (), 0, ()))))

    def test_following(self):
        random = Random(18)
        for _ in range(30):
            machine = some_turing(random, 3, 3)
            begin = some_tape(random, machine, 3)
            for count in (0, 3, 20):
                self.assertTrue(is_same_run(TuringToStrings(machine), begin, count))

    def test_the_answer(self):
        machine = Turing(2, 2, [(0, 1, 0, 1, 0), (0, 0, 1, -1, 1)])
        translation = TuringToStrings(machine)
        begin = start((1, 1, 1))
        self.assertEqual(total_cost(translation, begin, 99), 4)
        self.assertEqual(answer_through(translation, begin, 4), last(machine, begin, 9))


class ChainTest(unittest.TestCase):
    def test_at_the_end(self):
        random = Random(19)
        for symbols in (2, 3, 5):
            first = TuringToBinary(some_turing(random, 3, symbols))
            chain = Chain([first, TuringToStrings(first.target)])
            for _ in range(5):
                begin = some_tape(random, first.source, 3)
                check_alike(self, chain, begin, 8)
                self.assertTrue(is_same_run(chain, begin, 8))
                self.assertEqual(total_cost(chain, begin, 8), total_cost(first, begin, 8))

    def test_counters_as_words(self):
        first = CountersToTuring(Registers(2, [("dec", 1, 1, 2), ("inc", 0, 0), ("end",)]))
        chain = Chain([first, TuringToStrings(first.target)])
        check_alike(self, chain, (0, (3, 4)), 99)
        steps = total_cost(chain, (0, (3, 4)), 99)
        self.assertEqual(answer_through(chain, (0, (3, 4)), steps), (2, (7, 0)))

    def test_elsewhere(self):
        translation = TuringToStrings(turing_of_size(2, 2))
        self.assertEqual(Chain([translation]).target, translation.target)
        for translations in [[translation, translation], [translation, TuringToBinary(turing_of_size(2, 2))]]:
            with self.assertRaises(NotFitting):
                Chain(translations)


class FittingTest(unittest.TestCase):
    def test_the_largest(self):
        check_alike(self, TuringToStrings(turing_of_size(200, 20)), (199, (19, 3), 7, (0, 12)), 9)

    def test_only_moves_to_the_left(self):
        machine = Turing(200, 20, [(state, symbol, 1, -1, state) for state in range(200) for symbol in range(20)])
        check_alike(self, TuringToStrings(machine), (199, (19, 3), 7, (0, 12)), 9)

    def test_others(self):
        for machine in [turing_of_size(201, 2), turing_of_size(1, 21), Turing(201, 20, []), Turing(1, 21, []),
                        adding(), Fractions([]), Tags([]), Strings([]), Combinators("SK")]:
            with self.assertRaises(NotFitting):
                TuringToStrings(machine)

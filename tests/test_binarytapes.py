"""Point 26: Turing machines with two symbols."""

import unittest
from random import Random

from tests.alike import check_alike, check_tapes, some_tape, some_turing, turing_of_size
from translatory.binarytapes import TuringToBinary
from translatory.chains import Chain
from translatory.combinators import Combinators
from translatory.errors import NotFitting
from translatory.following import answer_through, is_same_run, stands_at, total_cost
from translatory.fractions import Fractions
from translatory.registers import adding
from translatory.running import last
from translatory.strings import Strings
from translatory.tags import Tags
from translatory.tagtapes import TuringToTags
from translatory.turing import Turing, start

WIDTHS = [(2, 1), (3, 2), (4, 2), (5, 3), (8, 3), (9, 4), (16, 4), (17, 5), (20, 5)]


def cells(configuration, reach):
    """The symbols of the cells from `reach` to the left of the head to `reach` to its right."""
    _, left, here, right = configuration
    left = left + (0,) * (reach - len(left))
    right = right + (0,) * (reach - len(right))
    return left[:reach][::-1] + (here,) + right[:reach]


class PictureTest(unittest.TestCase):
    def test_the_example_of_the_interface(self):
        translation = TuringToBinary(Turing(1, 5, [(0, 4, 1, 1, 0)]))
        self.assertEqual(translation.picture((0, (3,), 4, (2,)))[1:], ((1, 1), 1, (0, 0, 0, 1)))

    def test_cell_by_cell(self):
        random = Random(10)
        for symbols, width in WIDTHS:
            translation = TuringToBinary(some_turing(random, 3, symbols))
            self.assertEqual(translation.target.symbols, 2)
            for _ in range(20):
                configuration = some_tape(random, translation.source, 4)
                picture = translation.picture(configuration)
                digits = "".join(format(symbol, f"0{width}b") for symbol in cells(configuration, 5))
                found = cells(picture, 5 * width + width)
                # The head is on the first cell of its block.
                self.assertEqual("".join(map(str, found[width:-1]))[:len(digits)], digits)
                self.assertTrue(translation.target.is_configuration(picture))
                self.assertEqual(translation.read_back(picture), configuration)

    def test_blanks_in_the_blocks_at_both_ends(self):
        translation = TuringToBinary(turing_of_size(1, 8))
        self.assertEqual(translation.picture((0, (4,), 1, (4,)))[1:], ((0, 0, 1), 0, (0, 1, 1)))
        self.assertEqual(translation.picture((0, (1,), 4, (1,)))[1:], ((1,), 1, (0, 0, 0, 0, 1)))
        self.assertEqual(translation.picture((0, (), 0, ()))[1:], ((), 0, ()))
        self.assertEqual(translation.picture((0, (0, 2), 0, (0, 2)))[1:],
                         ((0, 0, 0, 0, 1), 0, (0, 0, 0, 0, 0, 0, 1)))

    def test_the_state_depends_on_the_state_alone(self):
        translation = TuringToBinary(turing_of_size(7, 5))
        found = [{translation.picture((state, left, here, (1,)))[0] for left in [(), (3,)] for here in range(5)}
                 for state in range(7)]
        self.assertEqual({len(states) for states in found}, {1})
        self.assertEqual(len(set.union(*found)), 7)

    def test_fields(self):
        translation = TuringToBinary(turing_of_size(3, 5))
        self.assertEqual(translation.source, turing_of_size(3, 5))
        self.assertEqual(translation.target, TuringToBinary(turing_of_size(3, 5)).target)


class RunTest(unittest.TestCase):
    def test_small_machines(self):
        sizes = [(states, symbols) for states in range(1, 5) for symbols, _ in WIDTHS]
        check_tapes(self, TuringToBinary, sizes * 4, steps=15, longest=4)

    def test_all_moves_at_both_ends_of_the_tape(self):
        for symbols, _ in WIDTHS:
            for written in (0, 1, symbols - 1):
                for move in (-1, 0, 1):
                    machine = Turing(2, symbols, [(0, here, written, move, 1) for here in range(symbols)]
                                     + [(1, 0, 1, -move, 0)])
                    translation = TuringToBinary(machine)
                    for left in [(), (1,), (0, 1)]:
                        for right in [(), (1,), (0, symbols - 1)]:
                            for here in (0, symbols - 1):
                                check_alike(self, translation, (0, left, here, right), 4)

    def test_an_end_at_each_symbol(self):
        for symbols, _ in WIDTHS:
            translation = TuringToBinary(Turing(2, symbols, []))
            for here in range(symbols):
                for sides in [(), (1,), (symbols - 1, 0, 1)]:
                    self.assertEqual(check_alike(self, translation, (1, sides, here, sides), 3), 0)

    def test_following(self):
        random = Random(11)
        for symbols, _ in WIDTHS:
            machine = some_turing(random, 3, symbols)
            translation = TuringToBinary(machine)
            begin = some_tape(random, machine, 3)
            for count in (0, 3, 20):
                self.assertTrue(is_same_run(translation, begin, count))

    def test_the_answer(self):
        machine = Turing(2, 3, [(0, 2, 0, 1, 0), (0, 1, 2, -1, 1), (0, 0, 1, 0, 1)])
        translation = TuringToBinary(machine)
        begin = start((2, 2, 1))
        end = last(machine, begin, 9)
        steps = total_cost(translation, begin, 9)
        self.assertEqual(stands_at(translation, begin, 9), translation.picture(end))
        self.assertEqual(answer_through(translation, begin, steps + translation.last_steps(end)), end)

    def test_a_chain_into_a_tag_system(self):
        first = TuringToBinary(Turing(2, 3, [(0, 2, 1, 1, 0), (0, 1, 2, -1, 1), (0, 0, 1, 0, 1)]))
        chain = Chain([first, TuringToTags(first.target)])
        for begin in [start((2, 1)), start((1, 2)), start((2, 2)), start(())]:
            check_alike(self, chain, begin, 4)
            self.assertTrue(is_same_run(chain, begin, 9))


class FittingTest(unittest.TestCase):
    def test_the_largest(self):
        translation = TuringToBinary(turing_of_size(60, 20))
        check_alike(self, translation, (59, (19, 3), 7, (0, 12)), 9)

    def test_others(self):
        for machine in [turing_of_size(61, 2), turing_of_size(1, 21), Turing(61, 20, []), Turing(60, 21, []),
                        adding(), Fractions([]), Tags([]), Strings([]), Combinators("SK")]:
            with self.assertRaises(NotFitting):
                TuringToBinary(machine)

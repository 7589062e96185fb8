"""Points 32 and 33: the universal machine."""

import time
import unittest
from random import Random

from tests.alike import check_alike, check_tapes, some_tape, some_turing, turing_of_size, walked
from translatory.binarytapes import TuringToBinary
from translatory.chains import Chain
from translatory.combinators import Combinators
from translatory.errors import NotFitting
from translatory.following import answer_through, is_same_run, stands_at, total_cost
from translatory.fractions import Fractions
from translatory.registers import adding
from translatory.running import last, length
from translatory.strings import Strings
from translatory.tags import Tags
from translatory.turing import Turing, content, start
from translatory.universal import ToUniversal, universal

SIDES = [(), (1,), (0, 1), (1, 1, 0, 1)]


def source_cells(configuration):
    """The number of cells from the first to the last one that is not blank or under the head."""
    _, left, _, right = configuration
    return len(left) + 1 + len(right)


def marked_cells(configuration):
    """The number of cells that are not blank."""
    return sum(symbol != 0 for symbol in content(configuration))


def best_seconds(function, tries=7):
    """The least time that 50 calls take, as other programs may slow down most of the tries."""
    found = []
    for _ in range(tries):
        begin = time.perf_counter()
        for _ in range(50):
            function()
        found.append(time.perf_counter() - begin)
    return min(found)


class MachineTest(unittest.TestCase):
    def test_always_the_same(self):
        self.assertIsInstance(universal(), Turing)
        self.assertEqual(universal(), universal())
        self.assertLessEqual(universal().states, 300)
        self.assertLessEqual(universal().symbols, 60)

    def test_fields_of_a_translation(self):
        for machine in [Turing(1, 2, []), turing_of_size(40, 2)]:
            translation = ToUniversal(machine)
            self.assertEqual(translation.source, machine)
            self.assertEqual(translation.target, universal())

    def test_the_example_of_the_interface(self):
        machine = Turing(2, 2, [(0, 1, 1, 1, 0), (0, 0, 1, -1, 1)])
        translation = ToUniversal(machine)
        self.assertEqual([translation.target == universal(),
                          answer_through(translation, (0, (), 1, (1,)), 100000)],
                         [True, (1, (1,), 1, (1,))])


class SpeedTest(unittest.TestCase):
    """50 calls are to take 0.2 seconds at most, on a machine that is not busy."""

    def test_the_machine(self):
        self.assertLess(best_seconds(universal), 0.3)

    def test_translations(self):
        for machine in [Turing(1, 2, []), turing_of_size(40, 2)]:
            self.assertLess(best_seconds(lambda: ToUniversal(machine)), 0.3)

    def test_the_code_is_short(self):
        # A step copies the tape, so it takes the longer the more cells the code has.
        for states in (1, 2, 20, 40):
            picture = ToUniversal(turing_of_size(states, 2)).picture((0, (), 0, ()))
            self.assertLessEqual(source_cells(picture), 4 * states + 3)


class PictureTest(unittest.TestCase):
    def some_translations(self):
        random = Random(32)
        machines = [some_turing(random, states, 2) for states in (1, 1, 2, 3, 4, 5, 12, 40)]
        return random, [ToUniversal(machine) for machine in machines + [Turing(1, 2, []), Turing(40, 2, [])]]

    def test_state_and_tape(self):
        random, translations = self.some_translations()
        for translation in translations:
            for _ in range(20):
                configuration = some_tape(random, translation.source, 6)
                picture = translation.picture(configuration)
                self.assertEqual(picture[0], 0)
                self.assertTrue(translation.target.is_configuration(picture))
                self.assertEqual(translation.read_back(picture), configuration)

    def test_cells_that_are_not_blank(self):
        random, translations = self.some_translations()
        for translation in translations:
            states, rules = translation.source.states, len(translation.source.rules)
            for _ in range(20):
                configuration = some_tape(random, translation.source, 9)
                bound = (20 * (rules + states) + 10 * rules * states
                         + 10 * source_cells(configuration) + 20)
                self.assertLessEqual(marked_cells(translation.picture(configuration)), bound)

    def test_different_configurations(self):
        translation = ToUniversal(turing_of_size(5, 2))
        pictures = {translation.picture((state, left, here, right))
                    for state in range(5) for left in SIDES for here in (0, 1) for right in SIDES}
        self.assertEqual(len(pictures), 5 * 4 * 2 * 4)

    def test_different_machines(self):
        # All machines of one state, and some with more states.
        rules = [[(0, symbol, written, move, 0)] for symbol in (0, 1) for written in (0, 1) for move in (-1, 0, 1)]
        machines = [Turing(1, 2, one + other) for one in rules[:6] for other in rules[6:]]
        machines += [Turing(1, 2, one) for one in rules]
        machines += [Turing(2, 2, one) for one in rules]
        machines += [Turing(states, 2, []) for states in range(1, 41)]
        machines += [Turing(3, 2, [(0, 0, 0, 0, following)]) for following in range(3)]
        machines += [Turing(3, 2, [(state, 1, 0, 0, 2)]) for state in range(3)]
        translations = [ToUniversal(machine) for machine in machines]
        pictures = {translation.picture((0, left, here, left))
                    for translation in translations for left in SIDES for here in (0, 1)}
        self.assertEqual(len(pictures), len(machines) * 8)


class RunTest(unittest.TestCase):
    def test_small_machines(self):
        check_tapes(self, ToUniversal, [(states, 2) for states in range(1, 6)] * 8, steps=12, longest=5, seed=33)

    def test_all_moves_and_both_ends_of_the_tape(self):
        for written in (0, 1):
            for move in (-1, 0, 1):
                machine = Turing(2, 2, [(0, 0, written, move, 1), (0, 1, written, move, 1), (1, 1, 0, -move, 0)])
                translation = ToUniversal(machine)
                for left in SIDES:
                    for right in SIDES:
                        for here in (0, 1):
                            self.assertGreaterEqual(check_alike(self, translation, (0, left, here, right), 4), 1)

    def test_all_rules(self):
        for written in (0, 1):
            for move in (-1, 0, 1):
                for following in range(40):
                    machine = Turing(40, 2, [(0, 1, written, move, following)])
                    translation = ToUniversal(machine)
                    for side in [(), (0, 1)]:
                        self.assertGreaterEqual(check_alike(self, translation, (0, side, 1, side), 2), 1)

    def test_all_places_of_rules(self):
        for state in range(40):
            for here in (0, 1):
                machine = Turing(40, 2, [(state, here, 1, -1, 39 - state)])
                translation = ToUniversal(machine)
                self.assertGreaterEqual(check_alike(self, translation, (state, (1,), here, (1,)), 2), 1)
                self.assertEqual(check_alike(self, translation, (state, (1,), 1 - here, (1,)), 2), 0)
                if state < 39:
                    self.assertEqual(check_alike(self, translation, (state + 1, (1,), here, (1,)), 2), 0)

    def test_places_without_a_rule(self):
        for states in (1, 2, 40):
            translation = ToUniversal(Turing(states, 2, []))
            for state in {0, states // 2, states - 1}:
                for here in (0, 1):
                    for side in SIDES:
                        self.assertEqual(check_alike(self, translation, (state, side, here, SIDES[-1]), 3), 0)

    def test_the_end_is_read_back(self):
        machine = Turing(3, 2, [(0, 1, 1, 1, 0), (0, 0, 1, -1, 2)])
        translation = ToUniversal(machine)
        begin = start((1, 1, 1))
        steps = total_cost(translation, begin, 99) + translation.last_steps(last(machine, begin, 99))
        self.assertEqual(length(translation.target, translation.picture(begin), 10 ** 5), steps)
        end = walked(self, translation.target, translation.picture(begin), steps)
        self.assertEqual(translation.read_back(end), (2, (1, 1), 1, (1,)))
        self.assertEqual(stands_at(translation, begin, 2), translation.picture((0, (1, 1), 1, ())))

    def test_only_pictures_stand_in_the_state_0(self):
        translation = ToUniversal(turing_of_size(3, 2))
        configuration = (1, (0, 1), 1, (1,))
        for _ in range(6):
            place = translation.picture(configuration)
            for _ in range(translation.cost(configuration) - 1):
                place = translation.target.step(place)
                self.assertNotEqual(place[0], 0)
            configuration = translation.source.step(configuration)

    def test_the_largest(self):
        random = Random(34)
        for machine in [turing_of_size(40, 2), some_turing(random, 40, 2)]:
            translation = ToUniversal(machine)
            for state in (0, 1, 20, 38, 39):
                check_alike(self, translation, (state, (1, 0, 1), state & 1, (0, 0, 1)), 8)
                self.assertTrue(is_same_run(translation, (state, (1,), 0, ()), 8))

    def test_a_long_tape(self):
        translation = ToUniversal(turing_of_size(2, 2))
        side = (0, 1) * 3000
        self.assertEqual(check_alike(self, translation, (0, side, 1, side), 3), 3)


class ChainTest(unittest.TestCase):
    def test_three_symbols(self):
        random = Random(35)
        for states in (1, 2, 3, 2, 3):
            first = TuringToBinary(some_turing(random, states, 3))
            chain = Chain([first, ToUniversal(first.target)])
            self.assertEqual(chain.target, universal())
            for _ in range(4):
                configuration = some_tape(random, first.source, 4)
                check_alike(self, chain, configuration, 5)
                self.assertTrue(is_same_run(chain, configuration, 5))

    def test_the_answer(self):
        machine = Turing(2, 3, [(0, 2, 0, 1, 0), (0, 1, 2, -1, 1), (0, 0, 1, 0, 1)])
        first = TuringToBinary(machine)
        chain = Chain([first, ToUniversal(first.target)])
        begin = start((2, 2, 1))
        self.assertEqual(answer_through(chain, begin, 100000), last(machine, begin, 9))


class FittingTest(unittest.TestCase):
    def test_others(self):
        for machine in [turing_of_size(41, 2), Turing(41, 2, []), Turing(1, 3, []), turing_of_size(40, 3),
                        Turing(20000, 2, []), universal(), adding(), Fractions([]), Tags([]), Strings([]),
                        Combinators("SK")]:
            with self.assertRaises(NotFitting):
                ToUniversal(machine)

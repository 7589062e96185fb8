"""Point 12: string systems."""

import itertools
import unittest

from translatory.errors import InvalidMachine
from translatory.running import history, last, length
from translatory.strings import Strings


def plain_step(rules, word):
    """Point 12 word for word."""
    for left, right in rules:
        for at in range(len(word) - len(left) + 1):
            if word[at:at + len(left)] == left:
                return word[:at] + right + word[at + len(left):]
    return None


class MachineTest(unittest.TestCase):
    def refused(self, rules):
        with self.assertRaises(InvalidMachine):
            Strings(rules)

    def test_field(self):
        self.assertEqual(Strings([((1,), ()), ((0, 5), (7,))]).rules,
                         (((1,), ()), ((0, 5), (7,))))
        self.assertEqual(Strings([]).rules, ())

    def test_empty_left_side(self):
        self.refused([((), ())])
        self.refused([((1,), (2,)), ((), (3,))])

    def test_negative_symbols(self):
        for side in [(-1,), (0, -1), (-5, 0), (0, -10 ** 20, 0)]:
            self.refused([(side, ())])
            self.refused([((0,), side)])
            self.refused([((0,), ()), ((0,), side)])

    def test_great_symbols(self):
        self.assertEqual(Strings([((10 ** 20,), (3,))]).step((1, 10 ** 20)), (1, 3))

    def test_number_of_rules(self):
        self.assertEqual(len(Strings([((0,), (1,))] * 100000).rules), 100000)
        self.refused([((0,), (1,))] * 100001)

    def test_the_list_is_copied(self):
        rules = [((1,), (2,))]
        machine = Strings(rules)
        self.assertEqual(rules, [((1,), (2,))])
        rules[0] = ((1,), (3,))
        rules.append(((), ()))
        self.assertEqual(machine.rules, (((1,), (2,)),))
        self.assertEqual(machine.step((1,)), (2,))

    def test_equality(self):
        rules = [((1,), (2,)), ((3,), ())]
        self.assertEqual(Strings(rules), Strings(list(rules)))
        self.assertNotEqual(Strings(rules), Strings(rules[::-1]))
        self.assertNotEqual(Strings(rules), Strings(rules[:1]))


class StepTest(unittest.TestCase):
    def test_the_first_rule_comes_before_the_leftmost_place(self):
        machine = Strings([((1,), (8,)), ((2,), (9,))])
        self.assertEqual(machine.step((2, 2, 1)), (2, 2, 8))
        self.assertEqual(machine.step((0, 2, 2)), (0, 9, 2))

    def test_the_first_of_two_rules_for_one_left_side(self):
        self.assertEqual(Strings([((1,), (8,)), ((1,), (9,))]).step((1,)), (8,))

    def test_a_left_side_that_begins_another(self):
        self.assertEqual(Strings([((1, 2), (8,)), ((1,), (9,))]).step((1, 1, 2)), (1, 8))
        self.assertEqual(Strings([((1,), (9,)), ((1, 2), (8,))]).step((0, 1, 2)), (0, 9, 2))

    def test_the_leftmost_place(self):
        machine = Strings([((1, 1), (2,))])
        self.assertEqual(machine.step((0, 1, 1, 1)), (0, 2, 1))
        self.assertEqual(machine.step((1, 0, 1, 1, 1, 1)), (1, 0, 2, 1, 1))

    def test_several_symbols(self):
        machine = Strings([((1, 2, 3), (4, 4, 4, 4)), ((4, 4), ())])
        self.assertEqual(machine.step((1, 2, 1, 2, 3, 3)), (1, 2, 4, 4, 4, 4, 3))
        self.assertEqual(machine.step((1, 2, 4, 4)), (1, 2))

    def test_a_left_side_that_reaches_over_the_end(self):
        self.assertIsNone(Strings([((1, 2, 3), ())]).step((1, 2)))

    def test_no_rule_fits(self):
        self.assertIsNone(Strings([((1, 2), ())]).step((2, 1, 0)))
        self.assertIsNone(Strings([]).step((1, 2, 3)))

    def test_empty_word(self):
        self.assertIsNone(Strings([((1,), ())]).step(()))
        self.assertEqual(history(Strings([((1,), ())]), (1, 1), 9), [(1, 1), (1,), ()])

    def test_symbols_that_no_rule_has(self):
        self.assertEqual(Strings([((1,), (2,))]).step((77, 1, 99)), (77, 2, 99))

    def test_example(self):
        self.assertEqual(history(Strings([((2, 1), (1, 2)), ((2,), ())]), (2, 1, 1), 9),
                         [(2, 1, 1), (1, 2, 1), (1, 1, 2), (1, 1)])

    def test_against_the_point_word_for_word(self):
        lefts = [(0,), (1, 0), (0, 1, 1), (1, 1), (0, 0, 0, 1), (2,), (1, 0, 1)]
        words = [word for size in range(6) for word in itertools.product((0, 1, 2), repeat=size)]
        for chosen in itertools.permutations(lefts, 3):
            rules = [(left, (3,) * number) for number, left in enumerate(chosen)]
            machine = Strings(rules)
            for word in words:
                self.assertEqual(machine.step(word), plain_step(rules, word))

    def test_long_words(self):
        machine = Strings([((2, 1), (1, 2)), ((2,), ())])
        self.assertEqual(length(machine, (2,) + (1,) * 500, 1000), 501)
        self.assertEqual(machine.step((1,) * 20000 + (2,)), (1,) * 20000)
        self.assertEqual(last(Strings([((0,) * 50, ())]), (0,) * 20000, 400), ())

    def test_many_rules(self):
        rules = [((1, number), (2,)) for number in range(99999)] + [((1,), (3,))]
        machine = Strings(rules)
        self.assertEqual(machine.step((5, 1, 99998, 1, 777)), (5, 1, 99998, 2))
        self.assertEqual(machine.step((5, 1, 99999)), (5, 3, 99999))

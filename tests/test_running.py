"""Points 3 and 4: machines and runs."""

import unittest

from tests.samples import Countdown, Endless, left_deep, right_deep
from translatory.combinators import Combinators, parse_term, show_term
from translatory.errors import BadArgument, TooLong
from translatory.fractions import Fractions
from translatory.registers import Registers
from translatory.running import after, are_equal, history, last, length
from translatory.strings import Strings
from translatory.tags import Tags
from translatory.turing import Turing, start

FOREVER = Registers(1, [("inc", 0, 0)])

# A maker of a machine, a configuration, and the whole run from it.
RUNS = [
    (lambda: Turing(1, 2, [(0, 1, 0, 1, 0)]), start((1, 1)),
     [(0, (), 1, (1,)), (0, (), 1, ()), (0, (), 0, ())]),
    (lambda: Registers(2, [("dec", 1, 1, 2), ("inc", 0, 0), ("end",)]), (0, (3, 1)),
     [(0, (3, 1)), (1, (3, 0)), (0, (4, 0)), (2, (4, 0))]),
    (lambda: Fractions([(3, 2)]), 12, [12, 18, 27]),
    (lambda: Tags([(1, 1), None, (0,)]), (0, 2, 0, 0),
     [(0, 2, 0, 0), (0, 0, 1, 1), (1, 1, 1, 1)]),
    (lambda: Strings([((2, 1), (1, 2)), ((2,), ())]), (2, 1, 1),
     [(2, 1, 1), (1, 2, 1), (1, 1, 2), (1, 1)]),
    (lambda: Combinators("SKI"), parse_term("IKSS"),
     [parse_term("IKSS"), parse_term("KSS"), "S"]),
]


class AfterTest(unittest.TestCase):
    def test_a_run_that_goes_on(self):
        self.assertEqual(after(Countdown(), 9, 4), 5)
        self.assertEqual(after(FOREVER, (0, (0,)), 50), (0, (50,)))

    def test_a_run_that_ends_at_the_count(self):
        self.assertEqual(after(Countdown(), 4, 4), 0)

    def test_a_run_that_ends_early(self):
        self.assertEqual(after(Countdown(), 4, 5), 0)
        self.assertEqual(after(Countdown(), 4, 100), 0)

    def test_no_steps(self):
        self.assertEqual(after(Countdown(), 4, 0), 4)
        self.assertEqual(after(Countdown(), 0, 0), 0)

    def test_a_count_that_is_far_too_great(self):
        self.assertEqual(after(Countdown(), 4, 10 ** 30), 0)

    def test_negative(self):
        self.assertRaises(BadArgument, after, Countdown(), 4, -1)
        self.assertRaises(BadArgument, after, Countdown(), 0, -10 ** 30)


class HistoryTest(unittest.TestCase):
    def test_a_run_that_goes_on(self):
        self.assertEqual(history(Countdown(), 9, 3), [9, 8, 7, 6])
        self.assertEqual(history(Endless(), 0, 3), [0, 1, 2, 3])

    def test_a_run_that_ends_at_the_count(self):
        self.assertEqual(history(Countdown(), 3, 3), [3, 2, 1, 0])

    def test_a_run_that_ends_early(self):
        self.assertEqual(history(Countdown(), 3, 4), [3, 2, 1, 0])
        self.assertEqual(history(Countdown(), 0, 4), [0])

    def test_no_steps(self):
        self.assertEqual(history(Countdown(), 9, 0), [9])

    def test_negative(self):
        self.assertRaises(BadArgument, history, Countdown(), 9, -1)

    def test_the_list_is_new(self):
        first = history(Countdown(), 2, 2)
        first.append("more")
        self.assertEqual(history(Countdown(), 2, 2), [2, 1, 0])


class LengthTest(unittest.TestCase):
    def test_at_the_limit(self):
        self.assertEqual(length(Countdown(), 7, 7), 7)

    def test_one_step_more_than_the_limit(self):
        self.assertIsNone(length(Countdown(), 8, 7))

    def test_below_the_limit(self):
        self.assertEqual(length(Countdown(), 7, 100), 7)

    def test_limit_0(self):
        self.assertEqual(length(Countdown(), 0, 0), 0)
        self.assertIsNone(length(Countdown(), 1, 0))

    def test_a_run_that_never_ends(self):
        self.assertIsNone(length(FOREVER, (0, (0,)), 500))

    def test_negative(self):
        self.assertRaises(BadArgument, length, Countdown(), 0, -1)


class LastTest(unittest.TestCase):
    def assert_too_long(self, machine, configuration, limit):
        with self.assertRaises(TooLong) as caught:
            last(machine, configuration, limit)
        self.assertEqual(caught.exception.limit, limit)

    def test_at_the_limit(self):
        self.assertEqual(last(Countdown(), 7, 7), 0)

    def test_one_step_more_than_the_limit(self):
        self.assert_too_long(Countdown(), 8, 7)

    def test_below_the_limit(self):
        self.assertEqual(last(Countdown(), 7, 100), 0)

    def test_limit_0(self):
        self.assertEqual(last(Countdown(), 0, 0), 0)
        self.assert_too_long(Countdown(), 1, 0)

    def test_a_run_that_never_ends(self):
        self.assert_too_long(FOREVER, (0, (0,)), 100)

    def test_negative(self):
        self.assertRaises(BadArgument, last, Countdown(), 0, -1)
        self.assertRaises(BadArgument, last, FOREVER, (0, (0,)), -1)


class EveryKindTest(unittest.TestCase):
    def test_runs_of_every_kind(self):
        for make, first, run in RUNS:
            machine = make()
            steps = len(run) - 1
            self.assertEqual(history(machine, first, 100), run)
            self.assertEqual(history(machine, first, 1), run[:2])
            self.assertEqual(after(machine, first, 1), run[1])
            self.assertEqual(after(machine, first, steps), run[-1])
            self.assertEqual(last(machine, first, steps), run[-1])
            self.assertRaises(TooLong, last, machine, first, steps - 1)
            self.assertEqual(length(machine, first, steps), steps)
            self.assertIsNone(length(machine, first, steps - 1))
            self.assertIsNone(machine.step(run[-1]))

    def test_the_same_answer_for_the_same_arguments(self):
        for make, first, run in RUNS:
            machine = make()
            for _ in range(3):
                self.assertEqual(machine.step(first), run[1])

    def test_machines_are_equal_within_their_kind_only(self):
        for index, (make, _, _) in enumerate(RUNS):
            for other_index, (other_make, _, _) in enumerate(RUNS):
                self.assertEqual(make() == other_make(), index == other_index)
                self.assertEqual(make() != other_make(), index != other_index)

    def test_empty_machines_of_different_kinds_are_not_equal(self):
        machines = [Fractions([]), Tags([]), Strings([]), Turing(1, 2, [])]
        for index, machine in enumerate(machines):
            for other_index, other in enumerate(machines):
                self.assertEqual(machine == other, index == other_index)

    def test_a_machine_is_not_equal_to_something_else(self):
        for make, first, _ in RUNS:
            self.assertFalse(make() == first)
            self.assertTrue(make() != first)

    def test_the_run_of_the_interface(self):
        run = history(Combinators("SKI"), parse_term("S(KI)KS(IK)"), 9)
        self.assertEqual([show_term(term) for term in run],
                         ["S(KI)KS(IK)", "KIS(KS)(IK)", "I(KS)(IK)", "KS(IK)", "S"])


class EqualConfigurationsTest(unittest.TestCase):
    def test_as_python_does(self):
        some = [0, 1, "S", "", (), (0,), (1,), (0, 0), ((0,), 0), (0, (0,)), ("S", ("S", "S")),
                (("S", "S"), "S"), (0, (), 1, (1, 1)), (0, (), 1, (1, 2)), (0, (1,), 1, (1,))]
        for one in some:
            for other in some:
                self.assertIs(are_equal(one, other), one == other)

    def test_deep_terms(self):
        for make in (left_deep, right_deep):
            self.assertTrue(are_equal(make("S", "K", 9000), make("S", "K", 9000)))
            self.assertFalse(are_equal(make("S", "K", 9000), make("S", "K", 8999)))
            self.assertFalse(are_equal(make("S", "K", 9000), make("I", "K", 9000)))
            self.assertFalse(are_equal(make("S", "K", 9000), make("S", "I", 9000)))

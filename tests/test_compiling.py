"""Point 36: compiled functions."""

import unittest
from itertools import product
from random import Random

from tests.alike import check_instructions
from tests.functions import (
    ADD, DEEPEST, NEVER, NEXT, ONE_BEFORE_ZERO, ONLY_NULL, Spent, count_of, deep, of_count, reference,
    some_function,
)
from translatory.chains import Chain
from translatory.compiling import Compiled
from translatory.errors import BadArgument, InvalidFunction
from translatory.following import is_same_run
from translatory.fractionrun import RegistersToFractions
from translatory.recursive import arity, named
from translatory.registers import Registers
from translatory.running import last, length

LIMIT = 10 ** 6


class CompiledTest(unittest.TestCase):
    def check(self, function, arguments, expected, limit=LIMIT):
        compiled = Compiled(function)
        self.assertIsInstance(compiled.machine, Registers)
        check_instructions(self, compiled.machine)
        begin = compiled.begin(arguments)
        self.assertTrue(compiled.machine.is_configuration(begin))
        place, values = begin
        self.assertEqual(place, 0)
        rest = (0,) * (compiled.machine.count - 1 - len(arguments))
        self.assertEqual(values, (0,) + arguments + rest)
        end = last(compiled.machine, begin, limit)
        self.assertEqual(end[1][0], expected)
        self.assertEqual(compiled.answer(end), expected)

    def check_endless(self, function, arguments, steps=5000):
        compiled = Compiled(function)
        self.assertIsNone(length(compiled.machine, compiled.begin(arguments), steps))

    def test_without_parts(self):
        for count in range(7):
            arguments = tuple(range(5, 5 + count))
            self.check(("zero", count), arguments, 0)
            for index in range(count):
                self.check(("arg", count, index), arguments, 5 + index)
        for number in range(5):
            self.check(NEXT, (number,), number + 1)

    def test_of(self):
        self.check(("of", NEXT, (NEXT,)), (3,), 5)
        self.check(("of", NEXT, (("zero", 0),)), (), 1)
        self.check(("of", ("arg", 2, 1), (("arg", 3, 2), ("arg", 3, 0))), (7, 8, 9), 7)
        # One register in two places, and values that are not asked for.
        self.check(("of", ADD, (("arg", 1, 0), ("arg", 1, 0))), (4,), 8)
        self.check(("of", ADD, (NEXT, ("arg", 1, 0))), (4,), 9)
        self.check(("of", ("arg", 3, 1), (NEXT, ("zero", 1), NEXT)), (4,), 0)
        self.check(("of", ADD, (("of", ADD, (NEXT, NEXT)), ("of", ADD, (NEXT, NEXT)))), (2,), 12)

    def test_repeat(self):
        for times in range(4):
            self.check(ADD, (times, 3), times + 3)
            for index, expected in enumerate([[9, 0, 1, 2], [9, 9, 9, 9], [9, 9, 9, 9], [9, 7, 7, 7]]):
                self.check(("repeat", ("arg", 2, 0), ("arg", 4, index)), (times, 9, 7), expected[times])

    def test_least(self):
        self.check(("least", ("zero", 1)), (), 0)
        self.check(("least", ONE_BEFORE_ZERO), (5,), 1)
        self.check(ONLY_NULL, (0,), 0)
        self.check(("of", ("least", ONE_BEFORE_ZERO), (("least", ONE_BEFORE_ZERO),)), (0,), 1)
        self.check(("repeat", ONLY_NULL, ("of", ("least", ONE_BEFORE_ZERO), (("arg", 3, 1),))), (3, 0), 1)

    def test_named_functions(self):
        for word in ("add", "times", "before", "less", "isnull", "half", "root"):
            function = named(word)
            for arguments in product(range(5), repeat=arity(function)):
                self.check(function, arguments, reference(function, arguments)[0])

    def test_without_a_value(self):
        for function, arguments in [(ONLY_NULL, (1,)), (ONLY_NULL, (4,)), (NEVER, (0,)), (("least", NEXT), ()),
                                    (("of", ("zero", 1), (NEVER,)), (3,)),
                                    (("of", ("arg", 2, 1), (NEVER, NEXT)), (3,)),
                                    (("repeat", NEVER, ("zero", 3)), (2, 2)),
                                    (("repeat", NEXT, ("of", NEVER, (("zero", 3),))), (1, 1)),
                                    (("repeat", NEXT, ("of", ONLY_NULL, (("arg", 3, 0),))), (2, 1)),
                                    (("least", ("repeat", ("least", NEXT), ("zero", 2))), ())]:
            self.check_endless(function, arguments)
        # What has no value is not asked for.
        self.check(("repeat", NEXT, ("of", NEVER, (("zero", 3),))), (0, 1), 2)

    def test_some_functions(self):
        random = Random(36)
        ends = 0
        for _ in range(1200):
            count = random.randint(0, 4)
            function = some_function(random, count, random.randint(1, 5))
            if count_of(function) > 200:
                continue
            arguments = tuple(random.randint(0, 3) for _ in range(count))
            try:
                expected, _ = reference(function, arguments, 150)
            except Spent:
                self.check_endless(function, arguments, 100)
            else:
                ends += 1
                self.check(function, arguments, expected)
        self.assertGreater(ends, 500)

    def test_the_greatest_depth_and_size(self):
        self.check(deep(12), (5,), 17)
        for function in DEEPEST:
            for arguments in [(0, 0), (1, 2), (2, 1)]:
                self.check(function, arguments, reference(function, arguments)[0])
        self.check(of_count(2), (3,), 3)
        six = ("repeat", ("zero", 4), ("of", NEXT, (("arg", 6, 5),)))
        self.check(six, (2, 0, 0, 0, 4), 5)

    def test_many_repeats_within_each_other(self):
        function = ("zero", 1)
        for _ in range(5):
            function = ("repeat", ("zero", 0), ("of", function, (("arg", 2, 0),)))
        self.check(function, (3,), 0)
        inner = (("repeat", ("zero", 0), ("arg", 2, 0)),) * 6
        self.check(("of", ("arg", 6, 3), inner), (9,), 8)

    def test_the_machine_goes_through_translations(self):
        compiled = Compiled(("of", ADD, (NEXT, NEXT)))
        chain = Chain([RegistersToFractions(compiled.machine)])
        self.assertTrue(is_same_run(chain, compiled.begin((1,)), 1000))

    def test_the_example_of_the_interface(self):
        compiled = Compiled(named("times"))
        self.assertEqual(compiled.answer(last(compiled.machine, compiled.begin((3, 4)), 10000)), 12)


class ErrorTest(unittest.TestCase):
    def test_no_function(self):
        for thing in [("zero", 7), ("arg", 2, 2), ("of", NEXT, ()), ("of", ADD, (NEXT,)), ("repeat", NEXT, NEXT),
                      ("least", ("zero", 0)), deep(13), deep(40), of_count(3)]:
            with self.assertRaises(InvalidFunction):
                Compiled(thing)

    def test_wrong_arguments(self):
        for function, wrong in [(NEXT, ()), (NEXT, (1, 2)), (NEXT, (-1,)), (ADD, (1,)), (ADD, (1, 2, 3)),
                                (ADD, (-1, 0)), (ADD, (0, -1)), (("zero", 0), (0,)), (("zero", 0), (-1,))]:
            compiled = Compiled(function)
            with self.assertRaises(BadArgument):
                compiled.begin(wrong)

    def test_answers(self):
        compiled = Compiled(ADD)
        values = tuple(range(7, 7 + compiled.machine.count))
        self.assertEqual(compiled.answer((0, values)), 7)

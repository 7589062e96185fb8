"""Points 34 and 35: recursive functions."""

import unittest
from itertools import product
from math import isqrt
from random import Random

from tests.functions import (
    ADD, DEEPEST, LESS_FROM, NEVER, NEXT, ONE_BEFORE_ZERO, ONLY_NULL, Spent, count_of, deep, depth_of,
    of_count, reference, some_function,
)
from translatory.errors import BadArgument, InvalidFunction, TooLong
from translatory.recursive import applications, arity, is_function, named, value

# Right functions, with their arities.
RIGHT = [
    *[(("zero", count), count) for count in range(7)],
    (NEXT, 1),
    *[(("arg", count, index), count) for count in range(1, 7) for index in range(count)],
    (("of", NEXT, (NEXT,)), 1),
    (("of", NEXT, (("zero", 0),)), 0),
    (("of", ("arg", 6, 5), (("zero", 6),) * 6), 6),
    (("of", ("arg", 2, 0), (("arg", 3, 0), ("zero", 3))), 3),
    (ADD, 2),
    (("repeat", ("zero", 0), ("arg", 2, 0)), 1),
    (("repeat", ("zero", 4), ("arg", 6, 5)), 5),
    (("least", NEXT), 0),
    (("least", ("zero", 6)), 5),
    (ONLY_NULL, 1),
    (("of", ONLY_NULL, (ADD,)), 2),
]

# Each breaks one rule.
WRONG = [
    ("zero", -1), ("zero", 7), ("zero", 100),
    ("arg", 0, 0), ("arg", -1, 0), ("arg", 7, 0), ("arg", 1, 1), ("arg", 6, 6), ("arg", 3, -1), ("arg", 0, -1),
    ("of", NEXT, ()), ("of", ("zero", 0), ()), ("of", ("zero", 1), ()), ("of", ("least", NEXT), ()),
    ("of", NEXT, (NEXT, NEXT)), ("of", ("zero", 0), (NEXT,)), ("of", ADD, (NEXT,)), ("of", ADD, (NEXT,) * 3),
    ("of", ("arg", 6, 0), (NEXT,) * 7), ("of", ("arg", 6, 0), (NEXT,) * 5),
    ("of", ADD, (NEXT, ("zero", 0))), ("of", ADD, (("arg", 2, 0), NEXT)), ("of", ("zero", 3), (NEXT, NEXT, ADD)),
    ("repeat", NEXT, NEXT), ("repeat", NEXT, ADD), ("repeat", NEXT, ("zero", 4)), ("repeat", ("zero", 0), NEXT),
    ("repeat", ("zero", 0), ("zero", 3)), ("repeat", ("zero", 5), ("zero", 6)), ("repeat", ("zero", 6), ("zero", 6)),
    ("repeat", ("zero", 5), ("zero", 7)), ("repeat", ("zero", 6), ("zero", 8)),
    ("least", ("zero", 0)), ("least", ("least", NEXT)), ("least", ("of", NEXT, (("zero", 0),))),
]

WORDS = {
    "add": lambda one, other: one + other,
    "times": lambda one, other: one * other,
    "before": lambda number: max(0, number - 1),
    "less": lambda one, other: max(0, one - other),
    "isnull": lambda number: 1 if number == 0 else 0,
    "half": lambda number: number // 2,
    "root": isqrt,
}


def wrappings(thing):
    """Things in which the thing stands, directly and deep."""
    found = [("of", NEXT, (thing,)), ("of", thing, (NEXT,)), ("of", ADD, (NEXT, thing)), ("of", thing, (NEXT, NEXT)),
             ("repeat", thing, ADD), ("repeat", thing, ("zero", 3)), ("repeat", NEXT, thing),
             ("repeat", ("zero", 0), thing), ("least", thing)]
    deeper = thing
    for _ in range(9):
        deeper = ("of", NEXT, (deeper,))
    return found + [deeper]


class FormTest(unittest.TestCase):
    def test_right_functions(self):
        for function, count in RIGHT:
            self.assertIs(is_function(function), True, function)
            self.assertEqual(arity(function), count, function)

    def test_right_functions_within_others(self):
        for function, count in RIGHT:
            if count == 1:
                self.assertTrue(is_function(("of", NEXT, (function,))))
                self.assertTrue(is_function(("repeat", function, ("zero", 3))))
                self.assertTrue(is_function(("least", function)))
            if count >= 1:
                self.assertTrue(is_function(("of", function, (("zero", 2),) * count)))
            if count <= 4:
                self.assertTrue(is_function(("repeat", function, ("zero", count + 2))))

    def test_wrong_ones(self):
        for thing in WRONG:
            self.assertIs(is_function(thing), False, thing)

    def test_wrong_ones_within_others(self):
        for thing in WRONG:
            for outer in wrappings(thing):
                self.assertIs(is_function(outer), False, outer)

    def test_depth(self):
        for depth in range(1, 13):
            for function in (deep(depth), ("least", deep(depth - 1)) if depth > 1 else NEXT):
                self.assertEqual(depth_of(function), depth)
                self.assertTrue(is_function(function))
        for depth in range(13, 41):
            for function in (deep(depth), ("least", deep(depth - 1)), ("repeat", deep(depth - 1), ("zero", 3)),
                             ("repeat", NEXT, ("of", deep(depth - 2), (("zero", 3),))), ("of", NEXT, (deep(depth - 1),)),
                             ("of", deep(depth - 1), (NEXT,)), ("of", ADD, (NEXT, deep(depth - 1)))):
                self.assertEqual(depth_of(function), depth)
                self.assertFalse(is_function(function))

    def test_number_of_functions(self):
        for more in range(5):
            function = of_count(more)
            self.assertEqual(count_of(function), 198 + more)
            self.assertEqual(is_function(function), more <= 2)

    def test_one_part_in_very_many_places(self):
        thing = NEXT
        for _ in range(39):
            thing = ("of", ("arg", 6, 0), (thing,) * 6)
        self.assertFalse(is_function(thing))
        thing = NEXT
        for _ in range(11):
            thing = ("of", ("arg", 6, 0), (thing,) * 6)
        self.assertFalse(is_function(thing))
        self.assertFalse(is_function(("of", NEXT, (NEXT,) * 100000)))


class ValueTest(unittest.TestCase):
    def check(self, function, arguments, expected, count):
        self.assertEqual(value(function, arguments), expected)
        self.assertEqual(applications(function, arguments), count)
        self.assertEqual(value(function, arguments, limit=count), expected)
        self.assertEqual(applications(function, arguments, limit=count), count)
        for limit in {count - 1, count // 2, 0}:
            self.check_too_long(function, arguments, limit)

    def check_too_long(self, function, arguments, limit):
        for called in (value, applications):
            with self.assertRaises(TooLong) as caught:
                called(function, arguments, limit=limit)
            self.assertEqual(caught.exception.limit, limit)

    def test_without_parts(self):
        self.check(("zero", 0), (), 0, 1)
        self.check(("zero", 3), (4, 5, 6), 0, 1)
        self.check(NEXT, (0,), 1, 1)
        self.check(NEXT, (10 ** 30,), 10 ** 30 + 1, 1)
        for index in range(6):
            self.check(("arg", 6, index), (5, 3, 8, 0, 2, 9), (5, 3, 8, 0, 2, 9)[index], 1)

    def test_of(self):
        self.check(("of", NEXT, (NEXT,)), (3,), 5, 3)
        self.check(("of", ("arg", 2, 1), (("arg", 3, 2), ("arg", 3, 0))), (7, 8, 9), 7, 4)
        self.check(("of", NEXT, (("of", NEXT, (("zero", 0),)),)), (), 2, 5)

    def test_repeat(self):
        for times in range(5):
            self.check(ADD, (times, 4), times + 4, 2 + 3 * times)
        # For 0 the first function; then the number, the value before and the others.
        for index, expected in enumerate([[9, 0, 1, 2], [9, 9, 9, 9], [9, 9, 9, 9], [9, 7, 7, 7]]):
            function = ("repeat", ("arg", 2, 0), ("arg", 4, index))
            for times in range(4):
                self.check(function, (times, 9, 7), expected[times], 2 + times)
        self.check(("repeat", ("zero", 0), ("arg", 2, 0)), (0,), 0, 2)

    def test_least(self):
        self.check(ONLY_NULL, (0,), 0, 3)
        self.check(("least", ("zero", 1)), (), 0, 2)
        self.check(("least", ONE_BEFORE_ZERO), (5,), 1, 10)
        for number in range(5):
            expected, count = reference(("least", LESS_FROM), (number,))
            self.assertEqual(expected, number)
            self.check(("least", LESS_FROM), (number,), number, count)

    def test_no_value(self):
        for function, arguments in [(ONLY_NULL, (1,)), (NEVER, (0,)), (("least", NEXT), ()),
                                    (("of", ("zero", 1), (NEVER,)), (3,)),
                                    (("repeat", NEVER, ("zero", 3)), (2, 2)),
                                    (("repeat", NEXT, ("of", NEVER, (("zero", 3),))), (1, 1)),
                                    (("least", ("of", NEVER, (("zero", 1),))), ())]:
            for limit in (0, 1, 50, 100000):
                self.check_too_long(function, arguments, limit)
            self.check_too_long(function, arguments, 1000)
        with self.assertRaises(TooLong) as caught:
            value(NEVER, (0,))
        self.assertEqual(caught.exception.limit, 100000)
        # The inner function without a value is not asked for.
        self.check(("repeat", NEXT, ("of", NEVER, (("zero", 3),))), (0, 1), 2, 2)

    def test_the_least_number_needs_all_smaller_ones(self):
        # f(k) has no value for 0, and the value 0 for others.
        function = ("repeat", ("least", NEXT), ("zero", 2))
        self.check_too_long(("least", function), (), 100000)

    def test_the_limit_that_is_not_told(self):
        # 2 + 3 n applications.
        self.assertEqual(value(ADD, (33332, 0)), 33332)
        self.assertEqual(applications(ADD, (33332, 1)), 99998)
        for called in (value, applications):
            with self.assertRaises(TooLong) as caught:
                called(ADD, (33333, 0))
            self.assertEqual(caught.exception.limit, 100000)

    def test_great_arguments(self):
        self.check_too_long(ADD, (10 ** 40, 1), 100000)
        self.assertEqual(value(ADD, (2, 10 ** 40)), 10 ** 40 + 2)

    def test_against_the_words_of_the_document(self):
        random = Random(35)
        ends = 0
        for _ in range(1500):
            count = random.randint(0, 4)
            function = some_function(random, count, random.randint(1, 5))
            if count_of(function) > 200:
                continue
            self.assertTrue(is_function(function))
            self.assertEqual(arity(function), count)
            arguments = tuple(random.randint(0, 4) for _ in range(count))
            try:
                expected, needed = reference(function, arguments, 400)
            except Spent:
                self.check_too_long(function, arguments, 400)
            else:
                ends += 1
                self.check(function, arguments, expected, needed)
        self.assertGreater(ends, 700)

    def test_the_greatest_depth(self):
        self.check(deep(12), (5,), 17, 23)
        for function in DEEPEST:
            self.assertEqual(depth_of(function), 12)
            for arguments in product(range(3), repeat=2):
                self.check(function, arguments, *reference(function, arguments))

    def test_the_greatest_number_of_functions(self):
        function = of_count(2)
        self.check(function, (7,), 7, 200)

    def test_the_example_of_the_interface(self):
        self.assertEqual([value(ADD, (2, 3)), applications(ADD, (2, 3))], [5, 8])


class ErrorTest(unittest.TestCase):
    def check(self, error, function, arguments, limit):
        for called in (value, applications):
            with self.assertRaises(error):
                called(function, arguments, limit=limit)

    def test_no_function(self):
        for thing in WRONG + [deep(13), deep(40), of_count(3)]:
            for arguments in [(), (1,), (1, 2), (-1,)]:
                self.check(InvalidFunction, thing, arguments, 100)
                self.check(InvalidFunction, thing, arguments, 0)

    def test_wrong_arguments(self):
        for function, count in RIGHT:
            for wrong in {0, count - 1, count + 1, 9} - {count, -1}:
                self.check(BadArgument, function, (1,) * wrong, 100)
                self.check(BadArgument, function, (1,) * wrong, 0)
            for index in range(count):
                arguments = (2,) * index + (-1,) + (2,) * (count - index - 1)
                self.check(BadArgument, function, arguments, 100)
                self.check(BadArgument, function, arguments, 0)

    def test_the_limit_is_told_by_its_name(self):
        with self.assertRaises(TypeError):
            value(NEXT, (1,), 100)
        with self.assertRaises(TypeError):
            applications(NEXT, (1,), 100)


class NamedTest(unittest.TestCase):
    def test_all_words(self):
        for word, expected in WORDS.items():
            function = named(word)
            self.assertTrue(is_function(function), word)
            self.assertEqual(named(word), function)
            for arguments in product(range(7), repeat=arity(function)):
                self.assertEqual(value(function, arguments, limit=100000), expected(*arguments), (word, arguments))

    def test_arities(self):
        for word in WORDS:
            self.assertEqual(arity(named(word)), 2 if word in ("add", "times", "less") else 1, word)

    def test_other_words(self):
        for word in ["", "Add", "ADD", " add", "add ", "plus", "minus", "square", "zero", "next", "is null"]:
            with self.assertRaises(BadArgument):
                named(word)

"""The error classes of the interface."""

import unittest

from translatory import errors

PLAIN = ["InvalidMachine", "NotFitting", "InvalidFunction", "BadArgument"]
WITH_FIELD = {"InvalidText": "line", "TooLong": "limit", "TooLarge": "limit"}


class ErrorsTest(unittest.TestCase):
    def test_base_class(self):
        self.assertTrue(issubclass(errors.TranslatoryError, ValueError))
        self.assertEqual(errors.TranslatoryError.__bases__, (ValueError,))

    def test_all_are_direct_subclasses_of_the_base(self):
        for name in [*PLAIN, *WITH_FIELD]:
            self.assertEqual(getattr(errors, name).__bases__, (errors.TranslatoryError,), name)

    def test_no_class_is_a_subclass_of_another(self):
        names = [*PLAIN, *WITH_FIELD]
        for one in names:
            for other in names:
                is_subclass = issubclass(getattr(errors, one), getattr(errors, other))
                self.assertEqual(is_subclass, one == other, (one, other))

    def test_fields(self):
        for name, field in WITH_FIELD.items():
            for number in (1, 20000):
                error = getattr(errors, name)(number)
                self.assertEqual(getattr(error, field), number)

    def test_fields_of_a_raised_error(self):
        for name, field in WITH_FIELD.items():
            with self.assertRaises(errors.TranslatoryError) as caught:
                raise getattr(errors, name)(7)
            self.assertEqual(getattr(caught.exception, field), 7)

    def test_plain_errors_take_a_text(self):
        for name in PLAIN:
            with self.assertRaises(getattr(errors, name)):
                raise getattr(errors, name)("why")

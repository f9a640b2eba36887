"""Errors: splicedfilms/errors.py and point [3]."""

import unittest

from splicedfilms import errors
from splicedfilms.boxes import Box

NAMES = [
    "InvalidFilm", "InvalidPiece", "InvalidRule", "UnknownStrip", "UnknownRule", "InvalidTable", "InvalidNumber",
    "NoSplice", "NothingToUndo", "Unreadable",
]
VALUES = [
    0, -7, 10 ** 40, True, None, "", "A b", b"ab", [], [["ab"], 1], (), ("a", "", "b"), {}, {"a": [1]}, {1, 2},
    object(), ValueError("x"), Box(["ab"], []),
]


class ErrorClasses(unittest.TestCase):
    def test_what_each_class_stands_under(self):
        self.assertEqual(errors.FilmError.__mro__, (errors.FilmError,) + ValueError.__mro__)
        for name in NAMES:
            error = getattr(errors, name)
            self.assertEqual(error.__mro__, (error,) + errors.FilmError.__mro__, name)
            self.assertEqual((error.__name__, error.__module__), (name, "splicedfilms.errors"))

    def test_there_is_no_other_error_class(self):
        found = [name for name, thing in vars(errors).items() if isinstance(thing, type)]
        self.assertEqual(sorted(found), sorted(NAMES + ["FilmError"]))

    def test_value_is_the_one_argument_itself(self):
        for name in NAMES + ["FilmError"]:
            error = getattr(errors, name)
            for value in VALUES:
                self.assertIs(error(value).value, value)
                self.assertIs(error(value=value).value, value)

    def test_one_argument_and_no_other_number(self):
        for name in NAMES + ["FilmError"]:
            error = getattr(errors, name)
            with self.assertRaises(TypeError):
                error()
            with self.assertRaises(TypeError):
                error(1, 2)
            with self.assertRaises(TypeError):
                error(told=1)

    def test_each_is_caught_by_its_own_name_alone(self):
        for name in NAMES:
            for other in NAMES:
                caught = issubclass(getattr(errors, name), getattr(errors, other))
                self.assertEqual(caught, name == other)
            with self.assertRaises(errors.FilmError):
                raise getattr(errors, name)(1)
            with self.assertRaises(ValueError):
                raise getattr(errors, name)(value=1)

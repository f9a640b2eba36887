"""What several tests need."""

import unittest

LETTERS = "abcdefghijklmnopqrstuvwxyz"
# Texts that are neither films nor pieces: each sign from the space to the tilde that is no picture, and where it stands.
WRONG_SIGNS = [chr(code) for code in range(32, 127) if chr(code) not in LETTERS and code != 37]
WRONG_TEXTS = WRONG_SIGNS + ["a" + sign for sign in WRONG_SIGNS] + ["aB", "Ab", "a b", "ab ", " ab", "a.b", "a1", "a_a"]


class Case(unittest.TestCase):
    """A test case that asks for errors with their values."""

    def assert_error(self, error, value, call, *told, **more):
        with self.assertRaises(error) as caught:
            call(*told, **more)
        self.assertIs(type(caught.exception), error)
        self.assertEqual(caught.exception.value, value)
        self.assertIs(type(caught.exception.value), type(value))

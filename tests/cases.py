"""What several tests need."""

import copy
import unittest

from splicedfilms.errors import InvalidTable

LETTERS = "abcdefghijklmnopqrstuvwxyz"
# Texts that are neither films nor pieces: each sign from the space to the tilde that is no picture, and where it stands.
WRONG_SIGNS = [chr(code) for code in range(32, 127) if chr(code) not in LETTERS and code != 37]
WRONG_TEXTS = WRONG_SIGNS + ["a" + sign for sign in WRONG_SIGNS] + ["aB", "Ab", "a b", "ab ", " ab", "a.b", "a1", "a_a"]


class Case(unittest.TestCase):
    """A test case that asks for errors with their values."""

    def assert_error(self, error, value, call, *told, **more):
        with self.assertRaises(error) as caught:
            call(*told, **more)
        self.assertIs(type(caught.exception), error)
        self.assertEqual(caught.exception.value, value)
        self.assertIs(type(caught.exception.value), type(value))

    def assert_no_table(self, told, call, *arguments):
        """Check that a call raises `InvalidTable` with a copy of a tuple."""
        before = copy.deepcopy(told)
        with self.assertRaises(InvalidTable) as caught:
            call(*arguments)
        self.assertIs(type(caught.exception), InvalidTable)
        value = caught.exception.value
        self.assertEqual((value, type(value), told), (before, tuple, before))
        self.assert_alone(value, (told,))

    def assert_new_lists(self, call, *told):
        """Ask twice, and between spoil all lists of the first answer; return the second one."""
        before = copy.deepcopy(told)
        first = call(*told)
        kept = copy.deepcopy(first)
        spoil(first)
        second = call(*told)
        self.assertEqual(second, kept)
        self.assertEqual(told, before)
        self.assert_alone(second, told)
        return second

    def assert_alone(self, answer, told=()):
        """Check that each list of an answer stands in one place alone, and not in what was handed in."""
        found = lists_of(answer) + [part for thing in told for part in lists_of(thing)]
        for part in lists_of(answer):
            self.assertEqual([other is part for other in found].count(True), 1)


def lists_of(thing):
    """Return all lists of a thing, itself too, as often as they stand in it."""
    if not isinstance(thing, (list, tuple)):
        return []
    own = [thing] if isinstance(thing, list) else []
    return own + [part for inner in thing for part in lists_of(inner)]


def spoil(thing):
    """Change all lists of a thing."""
    for part in lists_of(thing):
        part.append("spoiled")
        part.reverse()

"""The fewest splices: splicedfilms/fewest.py, and points [4], [6], [7] and [9]."""

import re
import unittest

from cases import Case, WRONG_TEXTS
from naive import all_films, boxes_by_chance, fewest_by_rounds, pieces_of, texts
from samples import FEW, MANY
from splicedfilms.boxes import Box
from splicedfilms.errors import InvalidFilm, InvalidNumber, InvalidPiece
from splicedfilms.fewest import fewest, fewest_long, fewest_with
from splicedfilms.films import comes, splices, tree, within

ROUND = Box(["abc"], [("b", "c", "a", "b")])
NONE = [Box([], []), Box([], [("a", "", "", "a")])]


def least_of(numbers):
    return min(numbers, default=None)


class Fewest(Case):
    def test_boxes_with_few_films(self):
        for strips, rules in FEW:
            films = all_films(strips, rules)
            for film in list(films) + texts("abcd", 4):
                self.assertEqual(fewest(Box(strips, rules), film), films.get(film))

    def test_boxes_with_endless_many_films(self):
        for strips, rules, pattern, number in MANY:
            box = Box(strips, rules)
            for film in texts("abc", 7):
                self.assertEqual(fewest(box, film), number(film) if re.fullmatch(pattern, film) else None)

    def test_tree_and_within_tell_the_same(self):
        for strips, rules in boxes_by_chance(31, 80):
            box = Box(strips, rules)
            found, rounds = fewest_by_rounds(strips, rules, 3, 60)
            for film in texts("abc", 4) + list(found)[:60]:
                told = tree(box, film)
                self.assertEqual(fewest(box, film), None if told is None else splices(told))
                self.assertIs(fewest(box, film) is not None, comes(box, film))
            for most in range(rounds + 1):
                self.assertEqual(set(within(box, most)), {film for film in found if fewest(box, film) <= most})

    def test_films_of_many_pictures(self):
        self.assertEqual(fewest(ROUND, "a" + "b" * 22 + "c"), 21)
        box = Box(["b", "a"], [("bb", "", "", "a"), ("a", "", "b", "a"), ("b", "", "", "b")])
        self.assertEqual(fewest(box, "a" * 21), 60)

    def test_texts_that_are_no_films(self):
        for box in [ROUND] + NONE:
            for text in WRONG_TEXTS + [""]:
                self.assert_error(InvalidFilm, text, fewest, box, text)


class FewestWith(Case):
    def test_boxes_with_few_films(self):
        for strips, rules in FEW:
            films = all_films(strips, rules)
            for piece in {piece for film in films for piece in pieces_of(film)} | set(texts("abcd", 3)) | {"", "z"}:
                expected = least_of(films[film] for film in films if piece in film)
                self.assertEqual(fewest_with(Box(strips, rules), piece), expected, (strips, rules, piece))

    def test_boxes_with_endless_many_films(self):
        for strips, rules, pattern, number in MANY:
            films = [film for film in texts("abc", 8) if re.fullmatch(pattern, film)]
            for piece in [""] + texts("abc", 4):
                expected = least_of(number(film) for film in films if piece in film)
                self.assertEqual(fewest_with(Box(strips, rules), piece), expected, (strips, rules, piece))

    def test_boxes_by_chance(self):
        seen = 0
        for strips, rules in boxes_by_chance(32, 100):
            found, rounds = fewest_by_rounds(strips, rules, 4, 100)
            for piece in [""] + texts("abc", 3):
                expected = least_of(found[film] for film in found if piece in film)
                told = fewest_with(Box(strips, rules), piece)
                if expected is None:
                    self.assertTrue(told is None or told > rounds)
                else:
                    self.assertEqual(told, expected)
                    seen += expected > 1
        self.assertGreater(seen, 10)

    def test_boxes_without_films(self):
        for box in NONE:
            self.assertEqual([fewest_with(box, piece) for piece in ("", "a", "ab")], [None] * 3)

    def test_long_pieces(self):
        self.assertEqual(fewest_with(ROUND, "b" * 24), 23)
        self.assertEqual(fewest_with(Box(["ab"], [("b", "", "", "a")]), "ab" * 12), 11)
        self.assertEqual(fewest_with(Box(["ab"], [("b", "", "", "a")]), "ba" * 12), 12)
        self.assertIsNone(fewest_with(ROUND, "b" * 23 + "a"))

    def test_texts_that_are_no_pieces(self):
        for box in [ROUND] + NONE:
            for text in WRONG_TEXTS:
                self.assert_error(InvalidPiece, text, fewest_with, box, text)


class FewestLong(Case):
    def test_boxes_with_few_films(self):
        for strips, rules in FEW:
            films = all_films(strips, rules)
            for length in range(12):
                expected = least_of(films[film] for film in films if len(film) == length)
                self.assertEqual(fewest_long(Box(strips, rules), length), expected)

    def test_boxes_with_endless_many_films(self):
        for strips, rules, pattern, number in MANY:
            films = [film for film in texts("abc", 8) if re.fullmatch(pattern, film)]
            for length in range(9):
                expected = least_of(number(film) for film in films if len(film) == length)
                self.assertEqual(fewest_long(Box(strips, rules), length), expected)

    def test_boxes_by_chance(self):
        seen = 0
        for strips, rules in boxes_by_chance(33, 100):
            found, rounds = fewest_by_rounds(strips, rules, 4, 100)
            for length in range(10):
                expected = least_of(found[film] for film in found if len(film) == length)
                told = fewest_long(Box(strips, rules), length)
                if expected is None:
                    self.assertTrue(told is None or told > rounds)
                else:
                    self.assertEqual(told, expected)
                    seen += expected > 1
        self.assertGreater(seen, 20)

    def test_great_lengths(self):
        self.assertEqual([fewest_long(ROUND, length) for length in (0, 1, 2, 3, 59, 60, 61)],
                         [None, None, None, 0, 56, 57, 58])
        pairs = Box(["ab"], [("b", "", "", "a")])
        self.assertEqual([fewest_long(pairs, length) for length in (58, 59, 60)], [28, None, 29])
        # With three pictures, a splice may bring two more or three more.
        box = Box(["abc", "de"], [("c", "", "", "a"), ("c", "", "", "d"), ("e", "", "", "d")])
        self.assertEqual([fewest_long(box, length) for length in (1, 2, 3, 4, 5, 6, 7, 8, 9, 60)],
                         [None, 0, 0, 1, 1, 1, 2, 2, 2, 19])

    def test_numbers_below_0(self):
        for box in [ROUND] + NONE:
            for length in (-1, -2, -10 ** 30):
                self.assert_error(InvalidNumber, length, fewest_long, box, length)
        self.assertEqual([fewest_long(box, length) for box in NONE for length in (0, 1, 7)], [None] * 6)


class Asking(Case):
    def test_by_name(self):
        self.assertEqual(fewest(film="abbc", box=ROUND), 1)
        self.assertEqual(fewest_with(piece="bbb", box=ROUND), 2)
        self.assertEqual(fewest_long(length=7, box=ROUND), 4)

    def test_the_same_again_behind_other_questions(self):
        strips, rules = ["abc", "cab"], [("b", "c", "a", "b"), ("a", "", "", "a")]
        box = Box(strips, rules)
        asked = [[fewest(box, "abbc"), fewest_with(box, "cc"), fewest_long(box, 9), fewest_with(box, ""),
                  fewest(box, "cabc"), fewest_long(box, 5)] for _ in range(3)]
        fresh = [fewest(Box(strips, rules), "abbc"), fewest_with(Box(strips, rules), "cc"),
                 fewest_long(Box(strips, rules), 9), fewest_with(Box(strips, rules), ""),
                 fewest(Box(strips, rules), "cabc"), fewest_long(Box(strips, rules), 5)]
        self.assertEqual(asked, [fresh] * 3)
        self.assertEqual(fewest_with(box.without_rule(0), "bb"), None)
        self.assertEqual(fewest_with(box.with_strip("bb"), "bb"), 0)
        self.assertEqual(fewest_long(box + Box(["ababa"], []), 5), 0)
        self.assertEqual((box.strips, box.rules), (strips, rules))


if __name__ == "__main__":
    unittest.main()

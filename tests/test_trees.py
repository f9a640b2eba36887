"""Trees that are handed in: film_of, splices and judge_tree of splicedfilms/films.py, and point [7]."""

import unittest

from cases import Case, WRONG_TEXTS
from naive import count_splices, film_told
from splicedfilms.boxes import Box
from splicedfilms.errors import InvalidFilm, NoSplice, UnknownRule, UnknownStrip
from splicedfilms.films import film_of, judge_tree, splices

STRIPS, RULES = ["abc", "bab"], [("b", "c", "a", "b"), ("a", "b", "", "c")]
BOX = Box(STRIPS, RULES)
FIRST, SECOND = ("strip", 0), ("strip", 1)
ONE = ("splice", 0, 2, 1, FIRST, FIRST)
TWO = ("splice", 0, 3, 1, ONE, FIRST)
OTHER_TWO = ("splice", 0, 2, 1, FIRST, ONE)
MIXED = ("splice", 0, 4, 2, OTHER_TWO, SECOND)
ENDED = ("splice", 1, 2, 4, SECOND, TWO)
RIGHT = [
    (FIRST, "abc", 0), (SECOND, "bab", 0), (ONE, "abbc", 1), (TWO, "abbbc", 2), (OTHER_TWO, "abbbc", 2),
    (MIXED, "abbbb", 3), (ENDED, "bac", 3), (("splice", 1, 2, 2, SECOND, FIRST), "bac", 1),
]
# Trees with one error each; the numbers are unlike, so that each one tells where it stands.
WRONG_STRIP = ("strip", 9)
WRONG_RULE = ("splice", 8, 2, 1, FIRST, FIRST)
WRONG_CUT = ("splice", 0, 7, 1, FIRST, FIRST)
WRONG_PLACE = ("splice", 0, 2, 6, FIRST, FIRST)
WRONG = [(WRONG_STRIP, UnknownStrip, 9), (WRONG_RULE, UnknownRule, 8), (WRONG_CUT, NoSplice, 7),
         (WRONG_PLACE, NoSplice, 6)]


def changed(told):
    """Return all trees with one number other, or with one tree in the place of another."""
    if told[0] == "strip":
        return [("strip", told[1] + by) for by in (-9, -2, -1, 1, 2, 9)] + [ONE, WRONG_STRIP]
    found = [FIRST, SECOND, told[4], told[5], told[:4] + (told[5], told[4])]
    for at in (1, 2, 3):
        found.extend(told[:at] + (told[at] + by,) + told[at + 1:] for by in (-9, -5, -2, -1, 1, 2, 3, 9))
    found.extend(told[:4] + (part, told[5]) for part in changed(told[4]))
    found.extend(told[:5] + (part,) for part in changed(told[5]))
    return found


def chain(many):
    """Return a tree of so many splices, each within the second tree of the next one."""
    told = FIRST
    for _ in range(many):
        told = ("splice", 0, 2, 1, FIRST, told)
    return told


def other_chain(many):
    """Return a tree of so many splices, each within the first tree of the next one."""
    told = FIRST
    for at in range(many):
        told = ("splice", 0, 2 + at, 1, told, FIRST)
    return told


class RightTrees(Case):
    def test_films_and_splices(self):
        for told, film, many in RIGHT:
            self.assertEqual((film_of(BOX, told), splices(told)), (film, many))
            self.assertIs(judge_tree(BOX, film, told), True)

    def test_by_name(self):
        self.assertEqual(film_of(told=ONE, box=BOX), "abbc")
        self.assertEqual(splices(told=ONE), 1)
        self.assertIs(judge_tree(told=ONE, film="abbc", box=BOX), True)

    def test_strips_that_stand_twice(self):
        box = Box(["abc", "b", "abc"], RULES)
        told = ("splice", 0, 2, 1, ("strip", 2), ("strip", 0))
        self.assertEqual([film_of(box, ("strip", at)) for at in range(3)], ["abc", "b", "abc"])
        self.assertIs(judge_tree(box, "abbc", told), True)

    def test_rules_that_stand_twice(self):
        box = Box(STRIPS, RULES + RULES)
        self.assertEqual(film_of(box, ("splice", 2, 2, 1, FIRST, FIRST)), "abbc")

    def test_splices_asks_no_box(self):
        self.assertEqual(splices(("strip", -5)), 0)
        self.assertEqual(splices(("splice", -1, -1, -1, MIXED, ENDED)), 7)

    def test_deep_trees(self):
        for many in (60, 400):
            film = "a" + "b" * (many + 1) + "c"
            for told in (chain(many), other_chain(many)):
                self.assertEqual((film_of(BOX, told), splices(told)), (film, many))
                self.assertIs(judge_tree(BOX, film, told), True)
                self.assertIs(judge_tree(BOX, film[1:], told), False)

    def test_great_boxes(self):
        box = Box(["ab" * 20] * 29 + ["cd" * 20], [("ab" * 5, "ab" * 5, "cd" * 5, "cd" * 5)] * 36)
        told = ("splice", 35, 30, 10, ("strip", 28), ("strip", 29))
        self.assertEqual(film_of(box, told), "ab" * 15 + "cd" * 15)
        self.assertIs(judge_tree(box, "ab" * 15 + "cd" * 15, told), True)


class WrongTrees(Case):
    def test_strips_that_the_box_has_not(self):
        for index in (-1, -2, 2, 3, 10 ** 30):
            self.assert_error(UnknownStrip, index, film_of, BOX, ("strip", index))
            self.assert_error(UnknownStrip, index, film_of, BOX, ("splice", 0, 2, 1, FIRST, ("strip", index)))
        self.assert_error(UnknownStrip, 0, film_of, Box([], RULES), FIRST)

    def test_rules_that_the_box_has_not(self):
        for index in (-1, -2, 2, 10 ** 30):
            self.assert_error(UnknownRule, index, film_of, BOX, ("splice", index, 2, 1, FIRST, FIRST))
        self.assert_error(UnknownRule, 0, film_of, Box(STRIPS, []), ONE)

    def test_cuts_that_are_not_let(self):
        for cut in (-2, -1, 0, 1, 3, 4, 10 ** 30):
            self.assert_error(NoSplice, cut, film_of, BOX, ("splice", 0, cut, 1, FIRST, FIRST))
        for place in (-2, -1, 0, 2, 3, 4, 10 ** 30):
            self.assert_error(NoSplice, place, film_of, BOX, ("splice", 0, 2, place, FIRST, FIRST))

    def test_errors_of_a_splice_in_their_order(self):
        for first, error, value in WRONG:
            for second, _, _ in WRONG + [(SECOND, None, None)]:
                self.assert_error(error, value, film_of, BOX, ("splice", 5, 55, 56, first, second))
        for second, error, value in WRONG:
            self.assert_error(error, value, film_of, BOX, ("splice", 5, 55, 56, ONE, second))
        self.assert_error(UnknownRule, 5, film_of, BOX, ("splice", 5, 55, 56, ONE, TWO))
        self.assert_error(NoSplice, 55, film_of, BOX, ("splice", 0, 55, 56, ONE, TWO))
        self.assert_error(NoSplice, 56, film_of, BOX, ("splice", 0, 3, 56, ONE, TWO))

    def test_errors_deep_within(self):
        for told, error, value in WRONG:
            for _ in range(50):
                told = ("splice", 7, 77, 78, told, WRONG_STRIP)
            self.assert_error(error, value, film_of, BOX, told)
            self.assertIs(judge_tree(BOX, "abc", told), False)

    def test_one_thing_other(self):
        seen = {True: 0, False: 0}
        for right, film, _ in RIGHT:
            for told in changed(right):
                expected = film_told(STRIPS, RULES, told)
                self.assertIs(judge_tree(BOX, film, told), expected == film, told)
                seen[expected == film] += 1
                self.assertEqual(splices(told), count_splices(told))
                if expected is None:
                    with self.assertRaises((UnknownStrip, UnknownRule, NoSplice)):
                        film_of(BOX, told)
                else:
                    self.assertEqual(film_of(BOX, told), expected)
        self.assertGreater(seen[False], 500)
        self.assertGreater(seen[True], 3)

    def test_another_film(self):
        for told, film, _ in RIGHT:
            for other in ("a", "abb", film + "a", "c" + film, film + film, film.replace("b", "bb")):
                self.assertIs(judge_tree(BOX, other, told), other == film)

    def test_texts_that_are_no_films(self):
        for text in WRONG_TEXTS + [""]:
            self.assert_error(InvalidFilm, text, judge_tree, BOX, text, ONE)
        for told, _, _ in WRONG:
            self.assert_error(InvalidFilm, "A", judge_tree, BOX, "A", told)
            self.assert_error(InvalidFilm, "", judge_tree, Box([], []), "", told)

    def test_the_box_stays(self):
        box = Box(STRIPS, RULES)
        for told, error, value in WRONG:
            self.assert_error(error, value, film_of, box, told)
            judge_tree(box, "abc", told)
        self.assertEqual((box, box.strips, box.rules), (Box(STRIPS, RULES), STRIPS, RULES))


if __name__ == "__main__":
    unittest.main()

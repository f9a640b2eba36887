"""What comes about: comes, tree and within of splicedfilms/films.py, and points [6], [7], [9]."""

import re
import unittest

from cases import Case, WRONG_TEXTS
from naive import all_films, all_splices, boxes_by_chance, count_splices, fewest_by_rounds, film_told, in_order, texts
from samples import FEW, MANY
from splicedfilms.boxes import Box
from splicedfilms.errors import InvalidFilm, InvalidNumber
from splicedfilms.films import comes, film_of, judge_tree, splices, tree, within

ROUND = Box(["abc"], [("b", "c", "a", "b")])
# Boxes of which the program finds some film only late, while it looks for all that may come about.
LATE = [
    (["bb", "bba", "bb"], [("bb", "a", "", "a"), ("b", "b", "b", "b"), ("b", "", "", "bb")]),
    (["bb", "abb", "bb"], [("a", "", "a", "bb"), ("b", "b", "b", "b"), ("bb", "", "", "b")]),
    (["edccb", "b"], [("b", "", "", "b")]),
    (["dcbac"], [("d", "", "", "c")]),
    (["eabcd"], [("e", "", "", "ea")]),
    (["abbcd"], [("a", "", "", "ab")]),
    (["c", "abcc"], [("c", "", "", "c"), ("bc", "", "", "a")]),
]


class SmallBoxes(Case):
    def check_tree(self, strips, rules, film, fewest):
        box = Box(strips, rules)
        told = tree(box, film)
        self.assertIs(comes(box, film), True)
        self.assertEqual(film_told(strips, rules, told), film)
        self.assertEqual(count_splices(told), fewest, (strips, rules, film))
        self.assertEqual((film_of(box, told), splices(told)), (film, fewest))
        self.assertIs(judge_tree(box, film, told), True)

    def check_none(self, box, film):
        self.assertIs(comes(box, film), False)
        self.assertIsNone(tree(box, film))

    def test_all_films_of_boxes_with_few(self):
        for strips, rules in FEW:
            fewest = all_films(strips, rules)
            box = Box(strips, rules)
            for film in set(texts("abcd", 4)) | {film + "a" for film in fewest} | {film[:-1] for film in fewest} - {""}:
                if film not in fewest:
                    self.check_none(box, film)
            for film in fewest:
                self.check_tree(strips, rules, film, fewest[film])
            for most in (0, 1, 2, 3, 4, 10, 10 ** 9):
                self.assertEqual(within(box, most), in_order([film for film in fewest if fewest[film] <= most]))

    def test_boxes_with_endless_many_films(self):
        for strips, rules, pattern, number in MANY:
            for film in texts("abc", 7):
                if re.fullmatch(pattern, film):
                    self.check_tree(strips, rules, film, number(film))
                else:
                    self.check_none(Box(strips, rules), film)

    def test_boxes_by_chance_round_by_round(self):
        deepest = 0
        for strips, rules in boxes_by_chance(7, 150):
            box = Box(strips, rules)
            fewest, rounds = fewest_by_rounds(strips, rules, 4, 120)
            for most in range(rounds + 1):
                self.assertEqual(within(box, most), in_order([film for film in fewest if fewest[film] <= most]))
            for film in in_order(fewest)[:150]:
                self.check_tree(strips, rules, film, fewest[film])
                deepest = max(deepest, fewest[film])
            for film in texts("abc", 4):
                if film not in fewest:
                    told = tree(box, film)
                    self.assertIs(comes(box, film), told is not None)
                    if told is not None:
                        self.assertEqual(film_told(strips, rules, told), film)
                        self.assertGreater(splices(told), rounds)
        self.assertEqual(deepest, 4)

    def test_films_that_are_found_late(self):
        for strips, rules in LATE:
            fewest, _ = fewest_by_rounds(strips, rules, 4, 150)
            for film in in_order(fewest)[:200]:
                self.check_tree(strips, rules, film, fewest[film])

    def test_splices_of_what_comes_about_come_about(self):
        for strips, rules in boxes_by_chance(8, 60):
            box = Box(strips, rules)
            films = [film for film in texts("abc", 5) if comes(box, film)][-12:]
            number = {film: splices(tree(box, film)) for film in films}
            for film in films:
                for other in films:
                    for splice in all_splices(rules, film, other):
                        self.assertIs(comes(box, splice), True)
                        self.assertLessEqual(splices(tree(box, splice)), number[film] + number[other] + 1)

    def test_films_longer_than_the_one_asked_for_may_be_needed(self):
        strips, rules = ["abcd", "e"], [("abc", "d", "", "e"), ("a", "bce", "bc", "e")]
        self.check_tree(strips, rules, "ae", 3)
        self.check_tree(strips, rules, "abce", 1)
        self.check_none(Box(strips, rules[1:]), "ae")


class Strips(Case):
    def test_strips_that_stand_twice(self):
        box = Box(["ab", "ba", "ab"], [])
        self.assertIn(tree(box, "ab"), [("strip", 0), ("strip", 2)])
        self.assertEqual(tree(box, "ba"), ("strip", 1))
        self.assertEqual(within(box, 0), ["ab", "ba"])

    def test_boxes_without_strips(self):
        box = Box([], [("a", "", "", "a")])
        self.assertEqual([comes(box, "a"), tree(box, "a"), within(box, 0), within(box, 3)], [False, None, [], []])

    def test_boxes_without_rules(self):
        box = Box(["bb", "c", "a", "bb"], [])
        self.assertEqual([comes(box, film) for film in ("bb", "c", "a", "b", "bbb", "z")], [True] * 3 + [False] * 3)
        self.assertEqual([within(box, most) for most in range(4)], [["a", "c", "bb"]] * 4)

    def test_pictures_that_the_box_has_not(self):
        self.assertEqual([comes(ROUND, "abzbc"), tree(ROUND, "z")], [False, None])

    def test_a_strip_that_is_a_splice_too(self):
        box = Box(["abc", "abbc"], [("b", "c", "a", "b")])
        self.assertEqual(tree(box, "abbc"), ("strip", 1))
        self.assertEqual([splices(tree(box, "a" + "b" * many + "c")) for many in range(1, 7)], [0, 0, 1, 1, 2, 2])


class Asking(Case):
    def test_by_name(self):
        self.assertIs(comes(film="abbc", box=ROUND), True)
        self.assertEqual(tree(film="abc", box=ROUND), ("strip", 0))
        self.assertEqual(within(most=1, box=ROUND), ["abc", "abbc"])

    def test_told_lists_are_new(self):
        within(ROUND, 2).clear()
        self.assertEqual(within(ROUND, 2), ["abc", "abbc", "abbbc"])
        self.assertIsNot(within(ROUND, 0), ROUND.strips)

    def test_the_box_stays(self):
        strips, rules = ["abc", "cab"], [("b", "c", "a", "b"), ("a", "", "", "a")]
        box = Box(strips, rules)
        for film in ("abc", "abbc", "zz"):
            comes(box, film)
            tree(box, film)
        within(box, 2)
        self.assert_error(InvalidFilm, "A", comes, box, "A")
        self.assert_error(InvalidNumber, -1, within, box, -1)
        self.assertEqual((box, box.strips, box.rules), (Box(strips, rules), strips, rules))

    def test_what_one_box_was_asked_does_not_tell_on_another(self):
        film = "abbc"
        self.assertIs(comes(ROUND, film), True)
        self.assertIs(comes(ROUND.without_rule(0), film), False)
        self.assertIs(comes(ROUND.without_strip(0), film), False)
        self.assertIs(comes(ROUND.without_rule(0).with_rule(("a", "", "", "a")), film), False)
        self.assertIs(comes(ROUND + ROUND, film), True)

    def test_texts_that_are_no_films(self):
        for box in (ROUND, Box([], []), Box([], [("a", "", "", "a")]), Box(["a"], [])):
            for text in WRONG_TEXTS + [""]:
                self.assert_error(InvalidFilm, text, comes, box, text)
                self.assert_error(InvalidFilm, text, tree, box, text)

    def test_numbers_below_0(self):
        for box in (ROUND, Box([], [])):
            for most in (-1, -2, -10 ** 30):
                self.assert_error(InvalidNumber, most, within, box, most)

    def test_order_by_lengths_then_as_texts(self):
        box = Box(["b", "ab", "aaa", "a", "ba", "c"], [("b", "", "", "a")])
        self.assertEqual(within(box, 0), ["a", "b", "c", "ab", "ba", "aaa"])
        self.assertEqual(within(box, 1), in_order(within(box, 1)))


class Bounds(Case):
    def test_films_of_many_splices(self):
        for strips, rules, film, many in [
            (["b", "a"], [("bb", "", "", "a"), ("a", "", "b", "a"), ("b", "", "", "b")], "a" * 21, 60),
            (["aa", "bbba", "ab"], [("a", "b", "b", "a"), ("b", "b", "", "b"), ("b", "", "", "aa")], "a" * 24, 44),
            (["abc"], [("b", "c", "a", "b")], "a" + "b" * 22 + "c", 21),
        ]:
            box = Box(strips, rules)
            told = tree(box, film)
            self.assertIs(comes(box, film), True)
            self.assertEqual((film_told(strips, rules, told), splices(told)), (film, many))
            self.assertIs(judge_tree(box, film, told), True)

    def test_boxes_of_full_size(self):
        strips = ["abcde", "edcba", "aabbc", "ccdde"]
        rules = [("ab", "c", "b", "cd"), ("d", "e", "", "a"), ("b", "", "c", "d")]
        box = Box(strips, rules)
        found = 0
        for film in texts("abcde", 4) + within(box, 2) + ["abcdeedcba" * 2 + "abcd", "abcdd" * 4 + "abcd"]:
            told = tree(box, film)
            self.assertIs(comes(box, film), told is not None)
            if told is not None:
                self.assertEqual(film_told(strips, rules, told), film)
                found += 1
        self.assertGreater(found, len(within(box, 2)))

    def test_within_of_some_hundred_films(self):
        strips = ["acbb", "cadbb", "ebbb", "dcab"]
        rules = [("b", "", "b", "b"), ("b", "", "", "d"), ("a", "c", "d", "ca")]
        fewest, _ = fewest_by_rounds(strips, rules, 3)
        self.assertEqual(len(fewest), 594)
        for most in range(4):
            self.assertEqual(within(Box(strips, rules), most),
                             in_order([film for film in fewest if fewest[film] <= most]))


if __name__ == "__main__":
    unittest.main()

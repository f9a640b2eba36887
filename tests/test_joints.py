"""Joints: splicedfilms/joints.py, and points [3], [4], [8] and [9]."""

import re
import unittest

from cases import Case, WRONG_TEXTS
from naive import all_films, boxes_by_chance, in_order, pieces_of, texts
from samples import FEW, MANY
from splicedfilms.boxes import Box
from splicedfilms.compare import brings
from splicedfilms.errors import InvalidNumber, InvalidPiece
from splicedfilms.films import comes
from splicedfilms.joints import is_joint, joints, looks_back, torn
from splicedfilms.questions import pieces, some_have

ROUND = Box(["abc"], [("b", "c", "a", "b")])
APART = Box(["bac", "dae"], [("ba", "", "b", "a"), ("da", "", "d", "a")])
# Boxes that look back as far as one likes: behind many pictures it still tells how the film begins.
ENDLESS = [
    APART,
    Box(["bac", "dae"], [("ba", "", "b", "a"), ("da", "", "d", "a"), ("c", "", "", "d")]),
    Box(["bac", "da"], [("ba", "", "b", "a"), ("da", "", "d", "a")]),
    Box(["bac", "daa"], [("ba", "", "b", "a"), ("daa", "", "d", "aa")]),
    Box(["cabad", "eaba"], [("cab", "", "c", "ab"), ("eab", "", "e", "ab")]),
]
NONE = [Box([], []), Box([], [("a", "", "c", "b")])]


def sides(films, piece):
    """Return all x and all w of films x + piece + w."""
    found = [(film[:at], film[at + len(piece):]) for film in films for at in range(len(film)) if film[at:].startswith(piece)]
    return {x for x, _ in found}, {w for _, w in found}


def torn_films(films, piece, has):
    """Return all films x + piece + w that do not come about, in their order, where films have x + piece and piece + w."""
    beginnings, ends = sides(films, piece)
    return in_order({x + piece + w for x in beginnings for w in ends if not has(x + piece + w)})


def standing(films):
    return {piece for film in films for piece in pieces_of(film)} - {""}


class FewFilms(Case):
    def test_pieces_that_stand_and_such_as_do_not(self):
        seen = [0, 0]
        for strips, rules in FEW:
            box = Box(strips, rules)
            films = all_films(strips, rules)
            for piece in standing(films) | set(texts("abcd", 2)) | {"z", "abz", "dddd"}:
                expected = torn_films(films, piece, lambda text: text in films)
                self.assertIs(is_joint(box, piece), not expected, (strips, rules, piece))
                self.assertEqual(torn(box, piece), expected[0] if expected else None, (strips, rules, piece))
                seen[not expected] += 1
        self.assertGreater(min(seen), 30)

    def test_joints_of_a_length(self):
        for strips, rules in FEW:
            box = Box(strips, rules)
            films = all_films(strips, rules)
            for length in range(1, 6):
                expected = [
                    piece for piece in sorted(standing(films))
                    if len(piece) == length and not torn_films(films, piece, lambda text: text in films)
                ]
                self.assertEqual(joints(box, length), expected)

    def test_how_far_boxes_look_back(self):
        seen = set()
        for strips, rules in FEW:
            films = all_films(strips, rules)
            wrong = [len(piece) for piece in standing(films) if torn_films(films, piece, lambda text: text in films)]
            # A joint with pictures more is a joint, so the longest piece that is none tells.
            self.assertEqual(looks_back(Box(strips, rules)), max(wrong, default=0) + 1, (strips, rules))
            seen.add(max(wrong, default=0) + 1)
        self.assertGreater(len(seen), 3)


class ManyFilms(Case):
    def test_films_of_a_pattern(self):
        for strips, rules, pattern, _ in MANY:
            box = Box(strips, rules)

            def has(text):
                return re.fullmatch(pattern, text) is not None

            films = [film for film in texts(box.pictures(), 9) if has(film)]
            for piece in texts("abc", 4):
                expected = torn_films(films, piece, has)
                # The films of a pattern show within nine pictures what there is to tear.
                self.assertEqual(torn(box, piece), expected[0] if expected else None, (pattern, piece))
                self.assertIs(is_joint(box, piece), not expected)

    def test_how_far_boxes_look_back(self):
        for box, number in [
            (ROUND, 1), (Box(["ab"], [("b", "", "", "a")]), 1), (Box(["a", "aa"], [("a", "", "", "a")]), 1),
            (Box(["aa"], [("a", "", "", "a")]), 2),
            (Box(["aca", "ac"], [("a", "", "b", "a"), ("c", "", "", "ca")]), 2),
        ] + [(box, None) for box in ENDLESS]:
            self.assertEqual(looks_back(box), number, (box.strips, box.rules))
            for length in range(1, 5):
                self.assertIs(joints(box, length) == pieces(box, length), number is not None and length >= number)

    def test_least_numbers_by_all_pieces(self):
        seen = {}
        for strips, rules in boxes_by_chance(71, 120):
            box = Box(strips, rules)
            told = looks_back(box)
            seen[told] = seen.get(told, 0) + 1
            for length in range(1, 5):
                all_are = joints(box, length) == pieces(box, length)
                self.assertIs(all_are, told is not None and length >= told, (strips, rules, length))
        self.assertGreater(len(seen), 3)

    def test_boxes_by_chance(self):
        seen = [0, 0]
        for strips, rules in boxes_by_chance(72, 50):
            box = Box(strips, rules)
            films = [film for film in texts(box.pictures(), 5) if comes(box, film)]
            for piece in texts(box.pictures(), 2) + ["aba", "bcb"]:
                told = torn(box, piece)
                self.assertIs(is_joint(box, piece), told is None)
                short = torn_films(films, piece, lambda text: comes(box, text))
                seen[told is None] += 1
                if told is None:
                    self.assertEqual(short, [], (strips, rules, piece))
                else:
                    self.check_torn(box, piece, told)
                    self.assertTrue(not short or in_order([told, short[0]])[0] == told)
        self.assertGreater(min(seen), 60)

    def check_torn(self, box, piece, told):
        self.assertIs(comes(box, told), False)
        found = [at for at in range(len(told)) if told[at:].startswith(piece)]
        rests = [""] + texts(box.pictures(), 4)
        self.assertTrue(any(
            any(comes(box, told[:at] + piece + rest) for rest in rests)
            and any(comes(box, rest + told[at:]) for rest in rests)
            for at in found
        ), (box.strips, box.rules, piece, told))


class Guarantees(Case):
    def test_a_joint_with_pictures_more_is_a_joint(self):
        many = 0
        for strips, rules in boxes_by_chance(73, 60):
            box = Box(strips, rules)
            for piece in texts(box.pictures(), 2):
                if is_joint(box, piece):
                    for more in texts(box.pictures(), 2):
                        self.assertIs(is_joint(box, more + piece), True)
                        self.assertIs(is_joint(box, piece + more), True)
                        many += some_have(box, more + piece) is not None
        self.assertGreater(many, 100)

    def test_pieces_of_two_parts_and_what_the_rule_of_both_brings(self):
        seen = [0, 0]
        for strips, rules in boxes_by_chance(74, 50):
            box = Box(strips, rules)
            for piece in pieces(box, 2) + pieces(box, 3)[:8] + ["ab"]:
                for cut in range(1, len(piece)):
                    rule = (piece[:cut], piece[cut:], piece[:cut], piece[cut:])
                    joins = brings(box, rule) is None
                    self.assertIs(is_joint(box, piece), joins)
                    self.assertIs(torn(box, piece) is None, joins)
                    seen[joins] += 1
        self.assertGreater(min(seen), 50)


class Pieces(Case):
    def test_pieces_that_stand_in_no_film(self):
        for piece in ("z", "ba", "abab", "cab", "z" * 24, "ab" * 12):
            self.assertEqual((is_joint(ROUND, piece), torn(ROUND, piece)), (True, None))
        self.assertEqual([joints(Box(["ab", "cb"], []), length) for length in range(1, 5)], [["a", "b", "c"], ["ab", "cb"], [], []])

    def test_long_pieces(self):
        self.assertEqual((is_joint(ROUND, "b" * 24), torn(ROUND, "b" * 24)), (True, None))
        self.assertEqual((is_joint(APART, "a" * 24), torn(APART, "a" * 24)), (False, "b" + "a" * 24 + "e"))
        self.assertEqual((is_joint(APART, "b" + "a" * 23), torn(APART, "b" + "a" * 23)), (True, None))

    def test_the_first_one_that_is_torn(self):
        self.assertEqual(torn(Box(["bac", "dae"], []), "a"), "bae")
        self.assertEqual(torn(Box(["xac", "yae", "bac"], []), "a"), "bae")
        self.assertEqual(torn(Box(["ac", "yyae", "bac"], []), "a"), "ae")
        # The piece may stand twice in the film, and the films may be cut at either place.
        self.assertEqual(torn(Box(["aba"], []), "a"), "a")
        self.assertEqual(torn(Box(["aaa"], []), "aa"), "aa")
        self.assertEqual(torn(Box(["a", "aa"], []), "a"), "aaa")

    def test_boxes_without_films(self):
        for box in NONE:
            self.assertEqual([looks_back(box), is_joint(box, "a"), torn(box, "a")], [1, True, None])
            self.assertEqual([joints(box, length) for length in range(1, 5)], [[]] * 4)

    def test_boxes_without_rules(self):
        for strips, number in [(["a"], 1), (["b", "ab"], 1), (["aa"], 2), (["aaa"], 3), (["ab", "ac"], 1), (["aba"], 2),
                               (["abcd", "ebf"], 2), (["abcd", "ebcf"], 3), (["abcd", "bcde", "e"], 4)]:
            self.assertEqual(looks_back(Box(strips, [])), number, strips)

    def test_pieces_and_lengths_that_are_none(self):
        for box in [ROUND, APART] + NONE:
            for text in WRONG_TEXTS + [""]:
                self.assert_error(InvalidPiece, text, is_joint, box, text)
                self.assert_error(InvalidPiece, text, torn, box, text)
            for length in (0, -1, -2, -10 ** 30):
                self.assert_error(InvalidNumber, length, joints, box, length)

    def test_boxes_of_full_size(self):
        box = Box(["abcde", "edcba", "aabbc", "ccdde"], [("ab", "c", "b", "cd"), ("d", "e", "", "a"), ("b", "", "c", "d")])
        for length in range(1, 5):
            found = joints(box, length)
            self.assertEqual(found, [piece for piece in pieces(box, length) if torn(box, piece) is None])
            self.assertIs(found == pieces(box, length), length >= 3)
        self.assertEqual(looks_back(box), 3)


class Asking(Case):
    def test_by_name(self):
        self.assertIs(is_joint(piece="b", box=ROUND), True)
        self.assertEqual(torn(piece="aa", box=APART), "baae")
        self.assertEqual(joints(length=1, box=ROUND), ["a", "b", "c"])
        self.assertEqual(looks_back(box=ROUND), 1)

    def test_the_told_lists_are_new(self):
        self.assertEqual(self.assert_new_lists(joints, Box(["abc"], [("b", "c", "a", "b")]), 1), ["a", "b", "c"])

    def test_the_same_again_behind_other_questions(self):
        box = Box(["bac", "dae"], [("ba", "", "b", "a"), ("da", "", "d", "a")])
        for _ in range(3):
            self.assertEqual([is_joint(box, "aa"), torn(box, "aa"), looks_back(box), is_joint(box, "ba"), joints(box, 2)],
                             [False, "baae", None, True, ["ac", "ae", "ba", "da"]])
            self.assert_error(InvalidPiece, "", torn, box, "")
            self.assertEqual((is_joint(box.without_strip(1), "aa"), looks_back(box.without_strip(1))), (True, 1))
            self.assertEqual(torn(box.with_strip("a"), "a"), "ac")
            self.assertEqual(joints(box.without_rule(0).without_rule(0), 1), ["b", "c", "d", "e"])


if __name__ == "__main__":
    unittest.main()

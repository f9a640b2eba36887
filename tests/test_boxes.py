"""The class Box: splicedfilms/boxes.py and points [2], [3], [4], [5], [6]."""

import unittest

from cases import Case, LETTERS, WRONG_TEXTS
from splicedfilms.boxes import Box
from splicedfilms.errors import InvalidFilm, InvalidPiece, InvalidRule, UnknownRule, UnknownStrip
from splicedfilms.films import tree

RULE = ("a", "b", "b", "c")
OTHER = ("c", "", "", "a")


def great_box():
    strips = [(LETTERS * 2)[at:at + 40 - at % 7] for at in range(12)] + ["ab" * 20] * 18
    rules = [(LETTERS[at % 16:at % 16 + 10], LETTERS[:at % 11], LETTERS[:10], LETTERS[16:]) for at in range(36)]
    return strips, rules


class Making(Case):
    def test_strips_and_rules_as_often_and_in_the_order_given(self):
        box = Box(["bc", "ab", "bc"], [OTHER, RULE, OTHER])
        self.assertEqual(box.strips, ["bc", "ab", "bc"])
        self.assertEqual(box.rules, [OTHER, RULE, OTHER])
        self.assertIs(type(box.strips), list)
        self.assertIs(type(box.rules), list)

    def test_by_name(self):
        self.assertEqual(Box(rules=[RULE], strips=["ab"]), Box(["ab"], [RULE]))
        self.assertEqual(Box(["ab"], rules=[RULE]).rules, [RULE])

    def test_empty_boxes(self):
        self.assertEqual((Box([], []).strips, Box([], []).rules, Box([], []).pictures(), len(Box([], []))),
                         ([], [], "", 0))
        self.assertEqual(Box([], [RULE]).pictures(), "abc")
        self.assertEqual(Box(["ca"], []).pictures(), "ac")

    def test_len_is_the_number_of_rules(self):
        self.assertEqual([len(Box(["ab", "c", "d"], [RULE] * many)) for many in range(4)], [0, 1, 2, 3])

    def test_pictures_of_each_piece_and_strip_ascending_and_unlike(self):
        self.assertEqual(Box(["zz", "a"], [("q", "c", "b", "y"), ("q", "", "", "x")]).pictures(), "abcqxyz")
        self.assertEqual(Box([LETTERS[::-1]], []).pictures(), LETTERS)

    def test_pieces_behind_and_ahead_may_be_empty(self):
        rules = [("a", "", "", "b"), ("a", "b", "", "b"), ("a", "", "b", "b")]
        self.assertEqual(Box([], rules).rules, rules)

    def test_all_letters_are_pictures(self):
        self.assertEqual(Box(list(LETTERS), [(LETTERS,) * 4]).strips, list(LETTERS))

    def test_great_boxes(self):
        strips, rules = great_box()
        box = Box(strips, rules)
        self.assertEqual((box.strips, box.rules, len(box), box.pictures()), (strips, rules, 36, LETTERS))
        self.assertEqual(box, Box(list(strips), list(rules)))
        self.assertEqual(box.with_strip("a").strips, strips + ["a"])
        self.assertEqual(box.with_rule(RULE).rules, rules + [RULE])
        self.assertEqual(box.without_strip(29).strips, strips[:29])
        self.assertEqual(box.without_rule(35).rules, rules[:35])
        self.assertNotEqual(box, box.without_rule(35))
        self.assertEqual((box + box).strips, strips + strips)


class MakingErrors(Case):
    def test_strips_that_are_no_films(self):
        for text in WRONG_TEXTS + [""]:
            self.assert_error(InvalidFilm, text, Box, [text], [])
            self.assert_error(InvalidFilm, text, Box, ["ab", text, "A"], [])

    def test_rules_of_other_than_four_things(self):
        for rule in [(), ("a",), ("a", "b"), ("a", "", "b"), ("a", "", "", "b", ""), ("a", "A", "b"), ("", "")]:
            self.assert_error(InvalidRule, rule, Box, [], [rule])
            self.assert_error(InvalidRule, rule, Box, ["ab"], [RULE, rule, ("A", "", "", "b")])

    def test_pieces_that_are_none(self):
        for text in WRONG_TEXTS:
            for at in range(4):
                rule = RULE[:at] + (text,) + RULE[at + 1:]
                self.assert_error(InvalidPiece, text, Box, ["ab"], [RULE, rule])

    def test_the_first_piece_that_is_none(self):
        self.assert_error(InvalidPiece, "A", Box, [], [("a", "A", "B", "C")])
        self.assert_error(InvalidPiece, "B", Box, [], [("a", "", "B", "C")])
        self.assert_error(InvalidPiece, "C", Box, [], [("a", "", "", "C")])

    def test_front_and_back_are_not_empty(self):
        for rule in [("", "b", "b", "c"), ("a", "b", "b", ""), ("", "", "", "")]:
            self.assert_error(InvalidRule, rule, Box, ["ab"], [RULE, rule])

    def test_pieces_ahead_of_an_empty_front_or_back(self):
        self.assert_error(InvalidPiece, "A", Box, [], [("", "b", "b", "A")])
        self.assert_error(InvalidPiece, "A", Box, [], [("", "A", "b", "")])

    def test_all_strips_ahead_of_all_rules(self):
        self.assert_error(InvalidFilm, "", Box, ["ab", ""], [("a",), ("A", "", "", "b")])
        self.assert_error(InvalidFilm, "B", Box, ["ab", "ab", "B"], [("", "", "", "")])

    def test_rule_by_rule(self):
        wrong_many, wrong_piece, wrong_front = ("a",), ("a", "A", "", "b"), ("", "", "", "b")
        self.assert_error(InvalidRule, wrong_front, Box, [], [RULE, wrong_front, wrong_many])
        self.assert_error(InvalidRule, wrong_front, Box, [], [wrong_front, wrong_piece])
        self.assert_error(InvalidPiece, "A", Box, [], [wrong_piece, wrong_many, wrong_front])
        self.assert_error(InvalidRule, wrong_many, Box, [], [wrong_many, wrong_piece])

    def test_lists_stay_if_there_is_an_error(self):
        strips, rules = ["ab", "A"], [RULE]
        self.assert_error(InvalidFilm, "A", Box, strips, rules)
        self.assertEqual((strips, rules), (["ab", "A"], [RULE]))


class Keeping(Case):
    def test_lists_that_are_changed_behind_the_call(self):
        strips, rules = ["ab", "bc"], [RULE]
        box = Box(strips, rules)
        strips.append("A")
        strips[0] = "zz"
        rules.clear()
        self.assertEqual((box.strips, box.rules, box.pictures(), len(box)), (["ab", "bc"], [RULE], "abc", 1))

    def test_told_lists_that_are_changed(self):
        box = Box(["ab", "bc"], [RULE])
        box.strips.append("zz")
        box.rules.clear()
        told = box.strips
        told[0] = "zz"
        self.assertEqual((box.strips, box.rules, len(box)), (["ab", "bc"], [RULE], 1))
        self.assertIsNot(box.strips, box.strips)
        self.assertIsNot(box.rules, box.rules)

    def test_the_lists_of_the_call_stay(self):
        strips, rules = ["ab", "ab"], [RULE, RULE]
        Box(strips, rules).with_strip("c").with_rule(OTHER).without_strip(0).without_rule(0)
        self.assertEqual((strips, rules), (["ab", "ab"], [RULE, RULE]))

    def test_strips_and_rules_are_not_set(self):
        box = Box(["ab"], [RULE])
        with self.assertRaises(AttributeError):
            box.strips = []
        with self.assertRaises(AttributeError):
            box.rules = []
        self.assertEqual(box, Box(["ab"], [RULE]))


class OtherBoxes(Case):
    def setUp(self):
        self.box = Box(["ab", "bc", "ab"], [RULE, OTHER])

    def tearDown(self):
        self.assertEqual((self.box.strips, self.box.rules), (["ab", "bc", "ab"], [RULE, OTHER]))

    def test_with_strip(self):
        box = self.box.with_strip("d")
        self.assertEqual((box.strips, box.rules), (["ab", "bc", "ab", "d"], [RULE, OTHER]))
        self.assertEqual(self.box.with_strip(strip="ab").strips, ["ab", "bc", "ab", "ab"])

    def test_with_rule(self):
        box = self.box.with_rule(("d", "", "", "e"))
        self.assertEqual((box.strips, box.rules), (["ab", "bc", "ab"], [RULE, OTHER, ("d", "", "", "e")]))
        self.assertEqual(self.box.with_rule(rule=RULE).rules, [RULE, OTHER, RULE])

    def test_without_strip(self):
        self.assertEqual([self.box.without_strip(at).strips for at in range(3)],
                         [["bc", "ab"], ["ab", "ab"], ["ab", "bc"]])
        self.assertEqual(self.box.without_strip(index=1).rules, [RULE, OTHER])

    def test_without_rule(self):
        self.assertEqual([self.box.without_rule(at).rules for at in range(2)], [[OTHER], [RULE]])
        self.assertEqual(self.box.without_rule(index=1).strips, ["ab", "bc", "ab"])

    def test_without_one_of_unlike_things(self):
        strips, rules = ["d", "c", "b", "a"], [("d", "", "", "a"), RULE, ("b", "", "", "a"), OTHER]
        for at in range(4):
            self.assertEqual(Box(strips, rules).without_strip(at), Box(strips[:at] + strips[at + 1:], rules))
            self.assertEqual(Box(strips, rules).without_rule(at), Box(strips, rules[:at] + rules[at + 1:]))

    def test_sum(self):
        other = Box(["d"], [OTHER])
        both = self.box + other
        self.assertEqual((both.strips, both.rules), (["ab", "bc", "ab", "d"], [RULE, OTHER, OTHER]))
        both = other + self.box
        self.assertEqual((both.strips, both.rules), (["d", "ab", "bc", "ab"], [OTHER, RULE, OTHER]))
        self.assertEqual((other.strips, other.rules), (["d"], [OTHER]))
        self.assertEqual(self.box + Box([], []), self.box)
        self.assertEqual(len(self.box + self.box), 4)

    def test_new_boxes_share_no_list(self):
        for box in [self.box.with_strip("d"), self.box.with_rule(RULE), self.box.without_strip(0), self.box + self.box]:
            strips, rules = list(box.strips), list(box.rules)
            box.strips.clear()
            box.rules.clear()
            self.assertEqual((box.strips, box.rules), (strips, rules))

    def test_errors_with(self):
        for text in ["", "A", "a b", "a,"]:
            self.assert_error(InvalidFilm, text, self.box.with_strip, text)
        for rule in [(), ("a", "", "b"), ("", "", "", "b"), ("a", "", "", ""), ("a",) * 5]:
            self.assert_error(InvalidRule, rule, self.box.with_rule, rule)
        self.assert_error(InvalidPiece, "|", self.box.with_rule, ("a", "|", "B", ""))
        self.assert_error(InvalidPiece, "B", self.box.with_rule, ("", "", "B", ""))

    def test_errors_without(self):
        for index in [-1, -3, 3, 4, 10 ** 30, -10 ** 30]:
            self.assert_error(UnknownStrip, index, self.box.without_strip, index)
        for index in [-1, -2, 2, 3, 10 ** 30]:
            self.assert_error(UnknownRule, index, self.box.without_rule, index)
        for index in [-1, 0, 1]:
            self.assert_error(UnknownStrip, index, Box([], [RULE]).without_strip, index)
            self.assert_error(UnknownRule, index, Box(["ab"], []).without_rule, index=index)


class Equality(Case):
    def test_equal(self):
        self.assertTrue(Box(["ab", "c"], [RULE, OTHER]) == Box(["ab", "c"], [RULE, OTHER]))
        self.assertFalse(Box(["ab", "c"], [RULE, OTHER]) != Box(["ab", "c"], [RULE, OTHER]))
        self.assertTrue(Box([], []) == Box([], []))

    def test_unequal(self):
        box = Box(["ab", "c"], [RULE, OTHER])
        others = [
            Box(["c", "ab"], [RULE, OTHER]), Box(["ab", "c"], [OTHER, RULE]), Box(["ab"], [RULE, OTHER]),
            Box(["ab", "c"], [RULE]), Box(["ab", "c", "c"], [RULE, OTHER]), Box(["ab", "c"], [RULE, OTHER, OTHER]),
            Box(["ab", "d"], [RULE, OTHER]), Box(["ab", "c"], [RULE, ("c", "", "a", "a")]), Box([], []),
        ]
        for other in others:
            self.assertFalse(box == other)
            self.assertTrue(box != other)

    def test_other_things(self):
        box = Box([], [])
        for thing in [None, 0, 1, "", "ab", [], (), {}, [[], []], ([], []), object(), Box, False]:
            self.assertFalse(box == thing)
            self.assertTrue(box != thing)
            self.assertFalse(thing == box)
            self.assertTrue(thing != box)

    def test_equality_does_not_hang_on_what_was_asked(self):
        box = Box(["abc"], [("b", "c", "a", "b")])
        self.assertEqual((box.pictures(), tree(box, "abbc") is None), ("abc", False))
        self.assertEqual(box, Box(["abc"], [("b", "c", "a", "b")]))


if __name__ == "__main__":
    unittest.main()

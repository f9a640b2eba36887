"""Boxes and trees as texts: splicedfilms/texts.py, and points [5] and [7]."""

import unittest

from cases import Case, LETTERS
from naive import boxes_by_chance
from splicedfilms.boxes import Box
from splicedfilms.films import tree
from splicedfilms.texts import show_box, show_tree

FIRST = ("strip", 0)


class Boxes(Case):
    def test_samples(self):
        for strips, rules, text in [
            ([], [], ""),
            (["a"], [], "a"),
            (["abc", "d"], [], "abc, d"),
            (["d", "abc", "d", "d"], [], "d, abc, d, d"),
            ([], [("a", "", "", "b")], "; a| |b"),
            ([], [("a", "b", "c", "d"), ("a", "b", "c", "d")], "; a|b c|d; a|b c|d"),
            (["ab"], [("a", "", "b", "c"), ("a", "b", "", "c")], "ab; a| b|c; a|b |c"),
            (["abc", "d"], [("b", "c", "", "ab"), ("d", "", "a", "b")], "abc, d; b|c |ab; d| a|b"),
            ([LETTERS, LETTERS[::-1]], [("xyz", "uvw", "rst", "opq")], LETTERS + ", " + LETTERS[::-1] + "; xyz|uvw rst|opq"),
        ]:
            self.assertEqual(show_box(Box(strips, rules)), text)

    def test_boxes_by_chance(self):
        for strips, rules in boxes_by_chance(111, 60):
            shown = show_box(Box(strips, rules))
            self.assertEqual(shown, ", ".join(strips) + "".join("; %s|%s %s|%s" % rule for rule in rules))

    def test_great_boxes(self):
        box = Box(["ab" * 20] * 30, [("a" * 10, "b" * 10, "", "c" * 10)] * 36)
        self.assertEqual(show_box(box), ", ".join(["ab" * 20] * 30) + ("; " + "a" * 10 + "|" + "b" * 10 + " |" + "c" * 10) * 36)

    def test_by_name(self):
        self.assertEqual((show_box(box=Box(["a"], [])), show_tree(told=FIRST)), ("a", "strip 0"))

    def test_the_box_stays(self):
        box = Box(["ab"], [("a", "", "b", "c")])
        self.assertEqual((show_box(box), show_box(box), box), ("ab; a| b|c",) * 2 + (Box(["ab"], [("a", "", "b", "c")]),))


class Trees(Case):
    def test_samples(self):
        for told, text in [
            (FIRST, "strip 0"),
            (("strip", 29), "strip 29"),
            (("splice", 1, 20, 300, FIRST, ("strip", 4000)), "rule 1 20 300 (strip 0) (strip 4000)"),
            (("splice", 3, 2, 1, ("splice", 4, 5, 6, ("strip", 7), ("strip", 8)), FIRST),
             "rule 3 2 1 (rule 4 5 6 (strip 7) (strip 8)) (strip 0)"),
            (("splice", 0, 2, 0, FIRST, ("splice", 1, 1, 1, ("strip", 1), FIRST)),
             "rule 0 2 0 (strip 0) (rule 1 1 1 (strip 1) (strip 0))"),
        ]:
            self.assertEqual(show_tree(told), text)

    def test_trees_of_films(self):
        box = Box(["abc"], [("b", "c", "a", "b")])
        self.assertEqual(show_tree(tree(box, "abbc")), "rule 0 2 1 (strip 0) (strip 0)")

    def test_deep_trees(self):
        told, other = FIRST, FIRST
        for _ in range(400):
            told = ("splice", 0, 2, 1, told, FIRST)
            other = ("splice", 0, 2, 1, FIRST, other)
        self.assertEqual(show_tree(told), "rule 0 2 1 (" * 400 + "strip 0" + ") (strip 0)" * 400)
        self.assertEqual(show_tree(other), "rule 0 2 1 (strip 0) (" * 400 + "strip 0" + ")" * 400)


if __name__ == "__main__":
    unittest.main()

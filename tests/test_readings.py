"""Boxes and trees from texts: splicedfilms/readings.py, and points [5] and [7]."""

import itertools
import random
import string
import unittest

from cases import Case, LETTERS
from naive import boxes_by_chance, changed_texts, is_text_of_box, texts, tree_told
from splicedfilms.boxes import Box
from splicedfilms.errors import Unreadable
from splicedfilms.films import comes, tree
from splicedfilms.readings import read_box, read_tree
from splicedfilms.texts import show_box, show_tree

# All signs from the space to the tilde, without the percent sign.
SIGNS = [chr(code) for code in range(32, 127) if code != 37]
FIRST = ("strip", 0)
BOXES = [
    Box([], []), Box(["a"], []), Box(["d", "abc", "d"], []), Box([], [("a", "", "", "b")]),
    Box(["ab"], [("a", "b", "b", "c"), ("a", "", "bb", "c"), ("a", "b", "", "c"), ("a", "", "", "c")]),
    Box(["abc", "d"], [("b", "c", "", "ab"), ("d", "", "a", "b")]),
]
TREES = [
    FIRST, ("strip", 10), ("strip", 9999), ("splice", 0, 0, 0, FIRST, FIRST),
    ("splice", 12, 345, 6789, ("strip", 7), ("strip", 80)),
    ("splice", 0, 2, 0, FIRST, ("splice", 1, 1, 1, ("strip", 1), FIRST)),
    ("splice", 0, 2, 0, ("splice", 1, 1, 1, ("strip", 1), FIRST), ("splice", 2, 3, 4, FIRST, ("strip", 20))),
]


def tree_by_chance(chance, most):
    """Return a tree of at most about so many splices."""
    if most == 0 or chance.random() < 0.2:
        return ("strip", chance.choice([0, 1, 9, 10, 99, 100, 999, 1000, 9999]))
    many = chance.randrange(most)
    numbers = [chance.choice([0, 3, 10, 47, 100, 400, 9999]) for _ in range(3)]
    return ("splice", *numbers, tree_by_chance(chance, many), tree_by_chance(chance, most - 1 - many))


class Boxes(Case):
    def test_both_ways(self):
        for box in BOXES + [Box(strips, rules) for strips, rules in boxes_by_chance(112, 60)]:
            text = show_box(box)
            found = read_box(text)
            self.assertEqual((found, found.strips, found.rules), (box, box.strips, box.rules))
            self.assertTrue(all(isinstance(rule, tuple) for rule in found.rules))
            self.assertEqual(show_box(found), text)

    def test_samples(self):
        self.assertEqual(read_box(""), Box([], []))
        self.assertEqual(read_box("; a| |b"), Box([], [("a", "", "", "b")]))
        self.assertEqual(read_box("z, z; a|b c|d; a| c|d; a|b |d"), Box(
            ["z", "z"], [("a", "b", "c", "d"), ("a", "", "c", "d"), ("a", "b", "", "d")]))
        self.assertEqual(read_box(text="abc"), Box(["abc"], []))

    def test_one_sign_put_in_taken_out_or_exchanged(self):
        seen = [0, 0]
        for box in BOXES:
            for text in changed_texts(show_box(box), SIGNS):
                self.check(text, seen)
        self.assertGreater(min(seen), 500)

    def test_texts_of_a_few_signs(self):
        seen = [0, 0]
        for size in range(7):
            for signs in itertools.product("a,; |", repeat=size):
                self.check("".join(signs), seen)
        for size in range(5):
            for signs in itertools.product(["a", "a|", " ", "|a", "; ", ", "], repeat=size):
                self.check("b; " + "".join(signs), seen)
        self.assertGreater(min(seen), 10)

    def check(self, text, seen):
        readable = is_text_of_box(text)
        seen[readable] += 1
        if readable:
            self.assertEqual(show_box(read_box(text)), text)
        else:
            self.assert_error(Unreadable, text, read_box, text)

    def test_texts_of_no_box(self):
        for text in [
            " ", ",", ", ", ";", "; ", "a,b", "a,  b", "a ,b", "a, ", ", a", "a; ", "a;", "a;b|c d|e", "a;  b|c d|e",
            "a; b|c d|e;", "a; b|c d|e; ", "a; b|c  d|e", "a; b|cd|e", "a; b |c d|e", "a; b| c d|e", "a; |c d|e", "a; b|c d|",
            "a; b|c d", "a; b c d e", "a; b|c d|e|f", "a; b|c|d e|f", "a; b|c d|e f|g", "b|c d|e", "a, b|c d|e", "a; b|c d|e, f",
            "A", "a1", "a; b|1 d|e", "a; B|c d|e", "strip 0", "()", "a\n", "a; b|c d|e\n", "\u00e4", "a; b|\u00e4 d|e",
        ]:
            self.assert_error(Unreadable, text, read_box, text)

    def test_great_boxes(self):
        box = Box([LETTERS] * 30, [("a" * 10, "", "b" * 10, "c" * 10)] * 36)
        self.assertEqual(read_box(show_box(box)), box)
        text = ", ".join(["abcde"] * 428)
        self.assertEqual((len(text), read_box(text).strips), (2994, ["abcde"] * 428))
        self.assertEqual(read_box("a" * 3000).strips, ["a" * 3000])
        text = "; a| |b" * 428
        self.assertEqual((len(read_box(text)), show_box(read_box(text))), (428, text))
        for text in (", " * 1500, "; " * 1500, "|" * 3000, " " * 3000, "a" * 2999 + "A", "; a| |b" * 428 + ";"):
            self.assert_error(Unreadable, text, read_box, text)

    def test_read_boxes_answer(self):
        box = read_box("abc; b|c a|b")
        self.assertEqual((comes(box, "abbc"), box.pictures(), len(box)), (True, "abc", 1))
        told = box.strips
        told.append("x")
        self.assertEqual(read_box("abc; b|c a|b"), box)


class Trees(Case):
    def test_both_ways(self):
        chance = random.Random(21)
        for told in TREES + [tree_by_chance(chance, 8) for _ in range(200)]:
            text = show_tree(told)
            self.assertEqual((read_tree(text), tree_told(text)), (told, told))

    def test_trees_of_films(self):
        for strips, rules in boxes_by_chance(113, 20):
            for film in texts("abc", 3) + strips:
                told = tree(Box(strips, rules), film)
                if told is not None:
                    self.assertEqual(read_tree(text=show_tree(told)), told)

    def test_one_sign_put_in_taken_out_or_exchanged(self):
        seen = [0, 0]
        for told in TREES:
            for text in changed_texts(show_tree(told), SIGNS):
                # A minus sign is no part of a number.
                self.check(text, seen)
        self.assertGreater(min(seen), 100)

    def test_words_in_another_order(self):
        seen = [0, 0]
        chance = random.Random(22)
        words = ["strip", "rule", "0", "1", "(", ")", "(strip 0)", "strip 0", "rule 0 1 2", " ", "  ", "10", "01"]
        for _ in range(3000):
            self.check(" ".join(chance.choices(words, k=chance.randint(0, 6))), seen)
        for _ in range(3000):
            parts = ["rule 1 2 3", "(strip 4)", "(strip 5)"]
            parts[chance.randrange(3)] = chance.choice(words + ["(rule 0 0 0 (strip 0) (strip 0))"])
            self.check(" ".join(parts), seen)
        self.assertGreater(min(seen), 20)

    def check(self, text, seen):
        told = tree_told(text)
        seen[told is not None] += 1
        if told is None:
            self.assert_error(Unreadable, text, read_tree, text)
        else:
            self.assertEqual(read_tree(text), told)

    def test_numbers(self):
        for word in ["0", "1", "9", "10", "99", "100", "1000", "9999"]:
            self.assertEqual(read_tree("strip " + word), ("strip", int(word)))
            for at in range(3):
                words = ["0"] * at + [word] + ["0"] * (2 - at)
                told = ("splice", *[int(part) for part in words], FIRST, FIRST)
                self.assertEqual(read_tree("rule " + " ".join(words) + " (strip 0) (strip 0)"), told)
        wrong = ["00", "01", "000", "007", "0000", "0001", "0999", "10000", "99999", "00000", "00001", "1" * 100, "-1", "-0", "+1",
                 "1.0", "1_0", "0x1", "a", "", " 1", "1 ", "1e1", "\u00b2", "\u0661"]
        for word in wrong:
            self.assert_error(Unreadable, "strip " + word, read_tree, "strip " + word)
            for at in range(3):
                words = ["0"] * at + [word] + ["0"] * (2 - at)
                text = "rule " + " ".join(words) + " (strip 0) (strip 0)"
                self.assert_error(Unreadable, text, read_tree, text)

    def test_texts_of_no_tree(self):
        for text in [
            "", " ", "strip", "strip ", "strip0", "strip  0", " strip 0", "strip 0 ", "strip 0 0", "(strip 0)", "Strip 0",
            "rule", "rule 0", "rule 0 0 0", "rule 0 0 0 (strip 0)", "rule 0 0 0 (strip 0)(strip 0)", "rule 0 0 0 strip 0 strip 0",
            "rule 0 0 (strip 0) (strip 0)", "rule 0 0 0 0 (strip 0) (strip 0)", "rule 0 0 0 (strip 0) (strip 0) (strip 0)",
            "rule 0 0 0 ((strip 0)) (strip 0)", "rule 0 0 0 (strip 0) (strip 0))", "(rule 0 0 0 (strip 0) (strip 0))",
            "rule 0 0 0 (strip 0)  (strip 0)", "rule 0 0 0  (strip 0) (strip 0)", "rule 0 0 0 (strip 0 (strip 0))",
            "rule 0 0 0 (strip 0) (strip 0", "rule 0 0 0 (strip) (strip 0)", "rule 0 0 0 (0) (0)", "rule 0 0 0 (strip 0) (rule)",
            "splice 0 0 0 (strip 0) (strip 0)", "strip strip 0", "strip (strip 0)", "rule rule 0 0 0", "0", "0 0", "ab; a| |b",
            "strip 0\n", "rule 0 0 0 (strip 0) (strip 0)\n", "strip ('strip', 0)", "rule strip 0 0 0 (strip 0) (strip 0)",
        ]:
            self.assert_error(Unreadable, text, read_tree, text)

    def test_trees_of_a_hundred_deep(self):
        told, other, both = FIRST, FIRST, FIRST
        for at in range(100):
            told = ("splice", 0, 2, 1, told, FIRST)
            other = ("splice", 0, 2, 1, FIRST, other)
            both = ("splice", 0, 2, 1, both, FIRST) if at % 2 else ("splice", 0, 2, 1, FIRST, both)
        for tree_of in (told, other, both):
            text = show_tree(tree_of)
            self.assertEqual((len(text), read_tree(text)), (2307, tree_of))
            for wrong in (text[:-1], text[1:], text + ")", text.replace("strip 0", "strip 00", 1), text[:1000] + text[1001:]):
                self.assert_error(Unreadable, wrong, read_tree, wrong)

    def test_long_texts(self):
        words = "".join(random.Random(23).choices(string.printable[:90].replace("%", ""), k=3000))
        for text in (words, "(" * 3000, ")" * 3000, "strip " * 500, "rule 0 0 0 (" * 250, "0 " * 1500, "rule " * 600, "1" * 3000,
                     " " * 3000, "strip " + "1" * 2994):
            self.assert_error(Unreadable, text, read_tree, text)


if __name__ == "__main__":
    unittest.main()

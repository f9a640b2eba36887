"""Last splices and what films need: splicedfilms/seams.py, and points [5], [6], [7] and [9]."""

import itertools
import re
import unittest

from cases import Case, WRONG_TEXTS
from naive import (
    all_films, boxes_by_chance, count_splices, fewest_by_rounds, film_told, in_order, sites, texts)
from samples import FEW, MANY
from splicedfilms.boxes import Box
from splicedfilms.errors import InvalidFilm, InvalidNumber, NoSplice, UnknownRule
from splicedfilms.films import comes, judge_tree
from splicedfilms.seams import beyond, reasons, seams, tree_at

ROUND = Box(["abc"], [("b", "c", "a", "b")])


def seams_by_pairs(rules, fewest):
    """Return {film: {(index, at): fewest splices}} of all splices of films."""
    found = {}
    for index, (front, behind, ahead, back) in enumerate(rules):
        for one, other in itertools.product(fewest, fewest):
            for cut, place in itertools.product(sites(front, behind, one), sites(ahead, back, other)):
                known = found.setdefault(one[:cut] + other[place:], {})
                cost = fewest[one] + fewest[other] + 1
                known[(index, cut)] = min(cost, known.get((index, cut), cost))
    return found


def parts(things):
    """Return all lists of indexes, ascending."""
    return [list(row) for size in range(len(things) + 1) for row in itertools.combinations(range(len(things)), size)]


def reasons_by_parts(strips, rules, film, has):
    """Return the reasons of a film; `has` tells whether a film comes about."""
    found = [
        (some, others) for some in parts(strips) for others in parts(rules)
        if has([strips[at] for at in some], [rules[at] for at in others], film)
    ]
    least = [
        one for one in found
        if not any(other != one and set(other[0]) <= set(one[0]) and set(other[1]) <= set(one[1]) for other in found)
    ]
    return sorted(least, key=lambda reason: (len(reason[0]) + len(reason[1]), reason))


class Seams(Case):
    def check_trees(self, strips, rules, film, expected):
        box = Box(strips, rules)
        for (index, at), cost in expected.items():
            told = tree_at(box, film, index, at)
            self.assertEqual(told[:3], ("splice", index, at))
            self.assertEqual((film_told(strips, rules, told), count_splices(told)), (film, cost), (strips, rules))
            self.assertIs(judge_tree(box, film, told), True)

    def check_no_seams(self, box, film):
        found = seams(box, film)
        for index in range(len(box)):
            for at in range(-3, len(film) + 4):
                if (index, at) not in found:
                    self.assert_error(NoSplice, at, tree_at, box, film, index, at)

    def test_boxes_with_few_films(self):
        for strips, rules in FEW:
            fewest = all_films(strips, rules)
            found = seams_by_pairs(rules, fewest)
            box = Box(strips, rules)
            for film in set(texts("abcd", 3)) | set(fewest):
                self.assertEqual(seams(box, film), sorted(found.get(film, {})))
                self.check_trees(strips, rules, film, found.get(film, {}))
                self.check_no_seams(box, film)

    def test_boxes_with_endless_many_films(self):
        for strips, rules, pattern, number in MANY:
            box = Box(strips, rules)
            # Films of up to eight pictures show each seam of those of up to six, and with as few splices as can be.
            fewest = {film: number(film) for film in texts("abc", 8) if re.fullmatch(pattern, film)}
            found = seams_by_pairs(rules, fewest)
            for film in texts("abc", 6):
                self.assertEqual(seams(box, film), sorted(found.get(film, {})), (strips, rules, film))
                self.check_trees(strips, rules, film, found.get(film, {}))

    def test_boxes_by_chance_round_by_round(self):
        seen = 0
        for strips, rules in boxes_by_chance(41, 60):
            fewest, rounds = fewest_by_rounds(strips, rules, 3, 50)
            found = seams_by_pairs(rules, {film: fewest[film] for film in fewest if fewest[film] < rounds})
            box = Box(strips, rules)
            for film in in_order(fewest)[:15]:
                told = seams(box, film)
                self.assertEqual(told, sorted(set(told)))
                # Splices of more rounds than these may show more seams, and none with fewer splices.
                sure = {seam: cost for seam, cost in found.get(film, {}).items() if cost <= rounds}
                self.assertEqual([seam for seam in sure if seam not in told], [])
                self.check_trees(strips, rules, film, sure)
                self.check_no_seams(box, film)
                for index, at in told:
                    tree = tree_at(box, film, index, at)
                    self.assertEqual((tree[:3], film_told(strips, rules, tree)), (("splice", index, at), film))
                    if (index, at) not in sure:
                        self.assertGreater(count_splices(tree), rounds)
                seen += len(sure)
        self.assertGreater(seen, 200)

    def test_a_film_comes_about_if_it_is_a_strip_or_has_a_seam(self):
        for strips, rules in boxes_by_chance(42, 60) + FEW + [sample[:2] for sample in MANY]:
            box = Box(strips, rules)
            for film in texts("abcd" if "d" in "".join(strips) else "abc", 4):
                self.assertIs(comes(box, film), film in strips or seams(box, film) != [])

    def test_several_rules_at_one_place(self):
        rules = [("b", "c", "a", "b"), ("ab", "", "", "b"), ("b", "c", "a", "b")]
        box = Box(["abc"], rules)
        self.assertEqual(seams(box, "abbc"), [(0, 2), (1, 2), (2, 2)])
        self.assertEqual(seams(box, "abbbc"), [(0, 2), (0, 3), (1, 2), (2, 2), (2, 3)])
        self.assertEqual([count_splices(tree_at(box, "abbbc", index, at)) for index, at in seams(box, "abbbc")], [2] * 5)

    def test_strips_with_seams(self):
        box = Box(["abc", "abbc"], [("b", "c", "a", "b")])
        self.assertEqual((seams(box, "abbc"), seams(box, "abc")), ([(0, 2)], []))
        self.assertEqual(tree_at(box, "abbc", 0, 2), ("splice", 0, 2, 1, ("strip", 0), ("strip", 0)))
        box = Box(["aa"], [("a", "", "", "a")])
        self.assertEqual(seams(box, "aa"), [(0, 1)])
        self.assertEqual(count_splices(tree_at(box, "aa", 0, 1)), 1)

    def test_long_films(self):
        film = "a" + "b" * 22 + "c"
        self.assertEqual(seams(ROUND, film), [(0, at) for at in range(2, 23)])
        self.check_trees(["abc"], [("b", "c", "a", "b")], film, {(0, at): 21 for at in range(2, 23)})
        rules = [("bb", "", "", "a"), ("a", "", "b", "a"), ("b", "", "", "b")]
        box = Box(["b", "a"], rules)
        for index, at in seams(box, "a" * 21):
            told = tree_at(box, "a" * 21, index, at)
            self.assertEqual((told[:3], film_told(["b", "a"], rules, told)), (("splice", index, at), "a" * 21))
            self.assertGreaterEqual(count_splices(told), 60)

    def test_errors_in_their_order(self):
        for box in (ROUND, Box([], []), Box(["a"], [])):
            for text in WRONG_TEXTS + [""]:
                self.assert_error(InvalidFilm, text, seams, box, text)
                self.assert_error(InvalidFilm, text, tree_at, box, text, 9, 9)
                self.assert_error(InvalidFilm, text, reasons, box, text)
            for index in (-1, -2, len(box), len(box) + 1, 10 ** 30):
                self.assert_error(UnknownRule, index, tree_at, box, "abbc", index, 2)
                self.assert_error(UnknownRule, index, tree_at, box, "zz", index, -7)
        for at in (-2, 0, 1, 3, 4, 5, -10 ** 30, 10 ** 30):
            self.assert_error(NoSplice, at, tree_at, ROUND, "abbc", 0, at)
        for film in ("abc", "ab", "z", "abcabc"):
            self.assert_error(NoSplice, 2, tree_at, ROUND, film, 0, 2)

    def test_the_told_lists_are_new(self):
        self.assertEqual(self.assert_new_lists(seams, Box(["abc"], [("b", "c", "a", "b")]), "abbbc"), [(0, 2), (0, 3)])

    def test_by_name(self):
        self.assertEqual(seams(film="abbc", box=ROUND), [(0, 2)])
        self.assertEqual(tree_at(at=2, index=0, film="abbc", box=ROUND),
                         ("splice", 0, 2, 1, ("strip", 0), ("strip", 0)))
        self.assertEqual(reasons(film="abc", box=ROUND), [([0], [])])
        self.assertEqual(beyond(most=0, box=ROUND), "abbc")


class Reasons(Case):
    def test_boxes_with_few_films(self):
        seen = 0
        for strips, rules in FEW:
            if len(strips) + len(rules) <= 5:
                kept = {}

                def has(some, others, film):
                    key = (tuple(some), tuple(others))
                    if key not in kept:
                        kept[key] = all_films(some, others)
                    return film in kept[key]

                for film in list(all_films(strips, rules)) + texts("abcd", 2):
                    expected = reasons_by_parts(strips, rules, film, has)
                    self.assertEqual(reasons(Box(strips, rules), film), expected)
                    seen += len(expected) > 1
        self.assertGreater(seen, 4)

    def test_boxes_by_chance(self):
        many = 0
        for strips, rules in boxes_by_chance(43, 80):
            rules = rules[:5 - len(strips)]
            fewest, _ = fewest_by_rounds(strips, rules, 2, 40)
            for film in in_order(fewest)[:6] + in_order(fewest)[-6:] + ["abc"]:
                expected = reasons_by_parts(strips, rules, film, lambda some, others, text: comes(Box(some, others), text))
                self.assertEqual(reasons(Box(strips, rules), film), expected)
                many += len(expected) > 1
        self.assertGreater(many, 30)

    def test_strips_and_films_that_do_not_come_about(self):
        box = Box(["abc", "b", "abc"], [("b", "c", "a", "b"), ("b", "", "", "c")])
        self.assertEqual(reasons(box, "abc"), [([0], []), ([2], [])])
        self.assertEqual(reasons(box, "b"), [([1], [])])
        self.assertEqual(reasons(box, "bc"), [([0, 1], [1]), ([1, 2], [1])])
        for film in ("a", "abab", "z"):
            self.assertEqual(reasons(box, film), [])
        self.assertEqual((reasons(Box([], []), "a"), reasons(Box([], [("a", "", "", "a")]), "a")), ([], []))

    def test_the_order(self):
        box = Box(["ab", "abb", "bb"], [("b", "", "", "b"), ("bb", "", "", "b")])
        self.assertEqual(reasons(box, "abb"), [([1], []), ([0], [0])])
        self.assertEqual(reasons(box, "abbb"), [([0], [0]), ([1], [0]), ([1], [1])])

    def test_the_told_lists_are_new(self):
        box = Box(["abc", "abc"], [("b", "c", "a", "b"), ("b", "c", "a", "b")])
        told = self.assert_new_lists(reasons, box, "abbc")
        self.assertEqual(told, [([0], [0]), ([0], [1]), ([1], [0]), ([1], [1])])


class Beyond(Case):
    def test_boxes_with_few_films(self):
        for strips, rules in FEW:
            fewest = all_films(strips, rules)
            for most in range(6):
                more = in_order([film for film in fewest if fewest[film] > most])
                self.assertEqual(beyond(Box(strips, rules), most), more[0] if more else None)

    def test_boxes_with_endless_many_films(self):
        for strips, rules, pattern, number in MANY:
            films = in_order([film for film in texts("abc", 10) if re.fullmatch(pattern, film)])
            for most in range(4):
                self.assertEqual(beyond(Box(strips, rules), most), next(film for film in films if number(film) > most))

    def test_boxes_by_chance(self):
        seen = [0, 0]
        for strips, rules in boxes_by_chance(44, 100):
            box = Box(strips, rules)
            fewest, rounds = fewest_by_rounds(strips, rules, 3, 60)
            for most in range(rounds + 1):
                known = [film for film in fewest if fewest[film] <= most]
                found = beyond(box, most)
                seen[found is None] += 1
                if found is None:
                    self.assertEqual(set(all_films(strips, rules)), set(known))
                else:
                    self.assertTrue(comes(box, found))
                    ahead = [film for film in texts("abc", min(6, len(found))) if comes(box, film)]
                    ahead = [film for film in ahead if (len(film), film) < (len(found), found)]
                    self.assertEqual([film for film in ahead if film not in known], [])
                    self.assertNotIn(found, known)
        self.assertGreater(min(seen), 40)

    def test_some_hundred_films(self):
        strips = ["acbb", "cadbb", "ebbb", "dcab"]
        rules = [("b", "", "b", "b"), ("b", "", "", "d"), ("a", "c", "d", "ca")]
        fewest, _ = fewest_by_rounds(strips, rules, 4)
        later = in_order([film for film in fewest if fewest[film] == 4])
        self.assertEqual(len(fewest) - len(later), 594)
        self.assertEqual(beyond(Box(strips, rules), 3), later[0])

    def test_numbers_below_0(self):
        for box in (ROUND, Box([], [])):
            for most in (-1, -2, -10 ** 30):
                self.assert_error(InvalidNumber, most, beyond, box, most)


if __name__ == "__main__":
    unittest.main()

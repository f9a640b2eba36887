"""Single splices, cuts and places: splicedfilms/boxes.py and points [4], [5]."""

import itertools
import unittest

from cases import Case, LETTERS, WRONG_TEXTS
from naive import sites
from samples import WRONG_RULES
from splicedfilms.boxes import cuts, places, spliced
from splicedfilms.errors import InvalidFilm, NoSplice

RULE = ("a", "b", "b", "c")


class Cuts(Case):
    def test_cuts_and_places(self):
        self.assertEqual(cuts(RULE, "abab"), [1, 3])
        self.assertEqual(places(RULE, "abcbc"), [2, 4])
        self.assertEqual(cuts(RULE, "bacb"), [])
        self.assertEqual(places(RULE, "c"), [])

    def test_by_name(self):
        self.assertEqual(cuts(film="abab", rule=RULE), [1, 3])
        self.assertEqual(places(film="abcbc", rule=RULE), [2, 4])

    def test_empty_behind_reaches_the_end(self):
        self.assertEqual(cuts(("a", "", "b", "c"), "aba"), [1, 3])
        self.assertEqual(cuts(("aba", "", "b", "c"), "aba"), [3])
        self.assertEqual(cuts(("a", "b", "", "c"), "aba"), [1])

    def test_empty_ahead_reaches_the_beginning(self):
        self.assertEqual(places(("a", "b", "", "a"), "aba"), [0, 2])
        self.assertEqual(places(("a", "b", "", "aba"), "aba"), [0])
        self.assertEqual(places(("a", "", "b", "a"), "aba"), [2])

    def test_pieces_that_overlap_themselves(self):
        self.assertEqual(cuts(("aa", "a", "b", "b"), "aaaaa"), [2, 3, 4])
        self.assertEqual(places(("b", "b", "a", "aa"), "aaaaa"), [1, 2, 3])

    def test_pieces_longer_than_the_film(self):
        self.assertEqual(cuts(("aaa", "", "", "aaa"), "aa"), [])
        self.assertEqual(places(("aaa", "", "", "aaa"), "aa"), [])

    def test_all_small_rules(self):
        pieces = ["", "a", "b", "ab", "ba", "aa"]
        for rule in itertools.product(pieces[1:], pieces, pieces, pieces[1:]):
            for film in ["a", "b", "ab", "ba", "aab", "abab", "baaab"]:
                self.assertEqual(cuts(rule, film), sites(rule[0], rule[1], film))
                self.assertEqual(places(rule, film), sites(rule[2], rule[3], film))

    def test_told_lists_are_new(self):
        cuts(RULE, "abab").append(7)
        places(RULE, "abcbc").clear()
        self.assertEqual((cuts(RULE, "abab"), places(RULE, "abcbc")), ([1, 3], [2, 4]))

    def test_errors(self):
        for asked in [cuts, places]:
            for error, value, rule in WRONG_RULES:
                self.assert_error(error, value, asked, rule, "ab")
                self.assert_error(error, value, asked, rule, "A")
            for text in WRONG_TEXTS + [""]:
                self.assert_error(InvalidFilm, text, asked, RULE, text)

    def test_long_films(self):
        film = "ab" * 200
        rule = ("ab" * 5, "ab" * 5, "ba" * 5, "ba" * 5)
        self.assertEqual(cuts(rule, film), list(range(10, 391, 2)))
        self.assertEqual(places(rule, film), list(range(11, 390, 2)))
        self.assertEqual(spliced(rule, film, 390, film, 11), film[:390] + film[11:])


class Splices(Case):
    def test_splices(self):
        self.assertEqual(spliced(RULE, "aab", 2, "abcd", 2), "aacd")
        self.assertEqual(spliced(RULE, "abab", 1, "bcbc", 1), "acbc")
        self.assertEqual(spliced(RULE, "abab", 3, "bcbc", 3), "abac")

    def test_a_film_with_itself(self):
        self.assertEqual(spliced(("b", "c", "a", "b"), "abc", 2, "abc", 1), "abbc")

    def test_by_name(self):
        told = {"place": 2, "other": "abcd", "cut": 2, "film": "aab", "rule": RULE}
        self.assertEqual(spliced(**told), "aacd")

    def test_at_the_ends_of_films(self):
        rule = ("a", "", "", "b")
        self.assertEqual(spliced(rule, "ba", 2, "bab", 0), "babab")
        self.assertEqual(spliced(rule, "ab", 1, "bab", 2), "ab")
        self.assertEqual(spliced(rule, "a", 1, "b", 0), "ab")

    def test_all_integers(self):
        for rule in [RULE, ("a", "", "", "b"), ("ab", "", "b", "a"), ("b", "aa", "", "a")]:
            for film, other in [("abaab", "abcab"), ("baab", "aba"), ("abbaa", "babca")]:
                for cut, place in itertools.product(range(-7, 9), repeat=2):
                    if cut not in sites(rule[0], rule[1], film):
                        self.assert_error(NoSplice, cut, spliced, rule, film, cut, other, place)
                    elif place not in sites(rule[2], rule[3], other):
                        self.assert_error(NoSplice, place, spliced, rule, film, cut, other, place)
                    else:
                        self.assertEqual(spliced(rule, film, cut, other, place), film[:cut] + other[place:])

    def test_great_integers(self):
        for wrong in [10 ** 30, -10 ** 30]:
            self.assert_error(NoSplice, wrong, spliced, RULE, "ab", wrong, "bc", 1)
            self.assert_error(NoSplice, wrong, spliced, RULE, "ab", 1, "bc", wrong)

    def test_wrong_rules_first(self):
        for error, value, rule in WRONG_RULES:
            self.assert_error(error, value, spliced, rule, "ab", 1, "bc", 1)
            self.assert_error(error, value, spliced, rule, "A", 77, "", 78)

    def test_wrong_films(self):
        for text in WRONG_TEXTS + [""]:
            self.assert_error(InvalidFilm, text, spliced, RULE, text, 1, "bc", 1)
            self.assert_error(InvalidFilm, text, spliced, RULE, "ab", 1, text, 1)

    def test_order_film_other_cut_place(self):
        self.assert_error(InvalidFilm, "A", spliced, RULE, "A", 77, "B", 78)
        self.assert_error(InvalidFilm, "B", spliced, RULE, "ab", 77, "B", 78)
        self.assert_error(NoSplice, 77, spliced, RULE, "ab", 77, "bc", 78)
        self.assert_error(NoSplice, 78, spliced, RULE, "ab", 1, "bc", 78)

    def test_the_longest_films(self):
        film = (LETTERS * 16)[:400]
        rule = (LETTERS[:10], LETTERS[10:20], LETTERS[:10], LETTERS[10:20])
        self.assertEqual(cuts(rule, film), list(range(10, 399, 26)))
        self.assertEqual(spliced(rule, film, 374, film, 10), film[:374] + film[10:])


if __name__ == "__main__":
    unittest.main()

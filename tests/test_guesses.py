"""Guesses: splicedfilms/guesses.py, and points [5], [6] and [9]."""

import itertools
import random
import unittest

from cases import Case, WRONG_TEXTS
from naive import all_films, boxes_by_chance, in_order, texts
from samples import FEW, WRONG_RULES
from splicedfilms.boxes import Box
from splicedfilms.compare import first_unlike
from splicedfilms.errors import InvalidFilm, InvalidPiece
from splicedfilms.films import comes, within
from splicedfilms.guesses import fitting, telling

PLAIN = Box(["abc"], [])
MENU = [("b", "c", "a", "b"), ("a", "b", "b", "c"), ("b", "c", "b", "c")]


def sets(menu):
    """Return all sets of indexes of a menu, by their number, then as lists."""
    return [list(row) for size in range(len(menu) + 1) for row in itertools.combinations(range(len(menu)), size)]


def wider(box, menu, chosen):
    """Return the box with some rules of a menu."""
    for index in chosen:
        box = box.with_rule(menu[index])
    return box


def fitting_by_films(strips, rules, menu, seen, unseen):
    """Return the sets that fit, for boxes by which only few films come about."""
    found = []
    for chosen in sets(menu):
        films = all_films(strips, rules + [menu[index] for index in chosen])
        if all(film in films for film in seen) and not any(film in films for film in unseen):
            found.append(chosen)
    return found


class Fitting(Case):
    def test_boxes_with_few_films(self):
        seen = [0, 0, 0]
        chance = random.Random(1)
        for strips, rules in FEW:
            films = in_order(all_films(strips, rules)) + ["ab", "z"]
            for _ in range(6):
                cut = chance.randint(0, len(rules))
                shown = chance.sample(films, chance.randint(0, min(2, len(films))))
                hidden = chance.sample(films, chance.randint(0, min(2, len(films))))
                told = fitting(Box(strips, rules[:cut]), rules[cut:], shown, hidden)
                self.assertEqual(told, fitting_by_films(strips, rules[:cut], rules[cut:], shown, hidden))
                seen[min(len(told), 2)] += 1
        self.assertGreater(min(seen), 10)

    def test_boxes_with_these_rules(self):
        seen = [0, 0]
        chance = random.Random(2)
        for strips, rules in boxes_by_chance(91, 60):
            box, menu = Box(strips, rules[:1]), rules[1:] + rules[:1] + [("a", "", "", "b"), ("b", "a", "", "ab")]
            menu = menu[:4]
            films = within(wider(box, menu, range(len(menu))), 1)[:40] + ["abc"]
            for _ in range(3):
                shown = chance.sample(films, min(len(films), chance.randint(0, 3)))
                hidden = chance.sample(films, min(len(films), chance.randint(0, 2)))
                expected = []
                for chosen in sets(menu):
                    known = wider(box, menu, chosen)
                    if all(comes(known, film) for film in shown) and not any(comes(known, film) for film in hidden):
                        expected.append(chosen)
                self.assertEqual(fitting(box, menu, shown, hidden), expected)
                seen[0 < len(expected) < len(sets(menu))] += 1
        self.assertGreater(min(seen), 20)

    def test_what_fits_with_two_sets_fits_with_each_one_between_them(self):
        many = 0
        for strips, rules in boxes_by_chance(92, 40):
            box = Box(strips, [])
            menu = (rules + [("a", "", "", "b"), ("b", "", "a", "b")])[:4]
            films = within(wider(box, menu, range(len(menu))), 1)
            told = fitting(box, menu, films[1:2], films[-1:])
            for low, high in itertools.product(told, repeat=2):
                for chosen in sets(menu):
                    if set(low) <= set(chosen) <= set(high):
                        self.assertIn(chosen, told)
                        many += chosen not in (low, high)
        self.assertGreater(many, 20)

    def test_the_order(self):
        self.assertEqual(fitting(PLAIN, MENU, [], []), [[], [0], [1], [2], [0, 1], [0, 2], [1, 2], [0, 1, 2]])
        self.assertEqual(fitting(PLAIN, MENU, ["abbc"], ["ac"]), [[0], [0, 2]])
        self.assertEqual(fitting(PLAIN, MENU, ["abbc", "ac"], []), [[0, 1], [0, 1, 2]])
        self.assertEqual(fitting(PLAIN, MENU, [], ["ac"]), [[], [0], [2], [0, 2]])
        four = MENU + [("c", "", "", "a")]
        self.assertEqual(fitting(PLAIN, four, [], []), sets(four))
        self.assertEqual(len(fitting(PLAIN, four, [], [])), 16)

    def test_menus_with_doubles(self):
        menu = [MENU[0], MENU[1], MENU[0], MENU[0]]
        self.assertEqual(fitting(PLAIN, menu, ["abbc"], ["ac"]), [[0], [2], [3], [0, 2], [0, 3], [2, 3], [0, 2, 3]])
        # A rule of the box may stand in the menu too.
        box = PLAIN.with_rule(MENU[0])
        self.assertEqual(fitting(box, MENU, ["abbc"], ["ac"]), [[], [0], [2], [0, 2]])

    def test_empty_menus_and_nothing_seen(self):
        self.assertEqual(fitting(PLAIN, [], [], []), [[]])
        self.assertEqual(fitting(PLAIN, [], ["abc"], ["abbc"]), [[]])
        self.assertEqual(fitting(PLAIN, [], ["abbc"], []), [])
        self.assertEqual(fitting(PLAIN, [], [], ["abc"]), [])
        none = Box([], [])
        self.assertEqual(fitting(none, MENU, [], ["abc"]), sets(MENU))
        self.assertEqual(fitting(none, MENU, ["abc"], []), [])

    def test_the_same_film_seen_and_unseen(self):
        for film in ("abc", "abbc", "ac", "z"):
            self.assertEqual(fitting(PLAIN, MENU, [film], [film]), [])
            self.assertIsNone(telling(PLAIN, MENU, [film], [film]))
        self.assertEqual(fitting(PLAIN, MENU, ["abbc", "abbc"], ["ac", "ac"]), [[0], [0, 2]])

    def test_at_most_six_films_and_five_rules(self):
        box = Box(["abc"], [("c", "", "c", "c")])
        menu = MENU + [("b", "c", "b", "c")]
        told = fitting(box, menu, ["abc", "abbc", "a" + "b" * 20 + "c"], ["ac", "acbc", "z" * 24])
        self.assertEqual(told, [[0], [0, 2], [0, 3], [0, 2, 3]])

    def test_the_told_lists_are_new(self):
        told = self.assert_new_lists(fitting, Box(["abc"], []), list(MENU), ["abbc"], ["ac"])
        self.assertEqual(told, [[0], [0, 2]])


class Telling(Case):
    def test_the_boxes_of_the_sets(self):
        seen = [0, 0]
        chance = random.Random(3)
        for strips, rules in boxes_by_chance(93, 60):
            box = Box(strips, rules[:1])
            menu = (rules[1:] + [("a", "", "", "b"), ("b", "a", "", "ab"), ("b", "", "", "b")])[:4]
            films = within(wider(box, menu, range(len(menu))), 1)[:40] + ["abc"]
            shown = chance.sample(films, min(len(films), chance.randint(0, 2)))
            hidden = chance.sample(films, min(len(films), chance.randint(0, 2)))
            boxes = [wider(box, menu, chosen) for chosen in fitting(box, menu, shown, hidden)]
            told = telling(box, menu, shown, hidden)
            parting = [first_unlike(one, other) for one, other in itertools.combinations(boxes, 2)]
            parting = in_order({film for film in parting if film is not None})
            self.assertEqual(told, parting[0] if parting else None)
            self.check_first(boxes, told)
            seen[told is None] += 1
        self.assertGreater(min(seen), 10)

    def check_first(self, boxes, told):
        for film in texts("abc", 3):
            some = {comes(box, film) for box in boxes}
            if len(some) == 2:
                self.assertIn(told, in_order([told, film])[:1])
        if told is not None:
            self.assertEqual({comes(box, told) for box in boxes}, {True, False})

    def test_samples(self):
        self.assertEqual(telling(PLAIN, MENU, [], ["ac"]), "abbc")
        self.assertIsNone(telling(PLAIN, MENU, ["abbc"], ["ac"]))
        self.assertEqual(telling(PLAIN, MENU, [], []), "ac")
        self.assertIsNone(telling(PLAIN, MENU, [], ["abc"]))
        self.assertIsNone(telling(PLAIN, [], [], []))
        self.assertIsNone(telling(PLAIN, [MENU[2]] * 4, [], []))
        self.assertIsNone(telling(Box([], []), MENU, [], []))
        # The first film that parts is not always one that parts the first two sets.
        self.assertEqual(telling(Box(["aaab", "c"], []), [("aa", "", "", "aa"), ("c", "", "", "c")], [], []), "cc")
        self.assertEqual(telling(Box(["aaab", "c"], []), [("c", "", "", "c"), ("aa", "", "", "aa")], [], []), "cc")

    def test_by_name(self):
        told = {"unseen": ["ac"], "seen": [], "menu": MENU, "box": PLAIN}
        self.assertEqual(fitting(**told), [[], [0], [2], [0, 2]])
        self.assertEqual(telling(**told), "abbc")


class Errors(Case):
    def check(self, error, value, *told):
        self.assert_error(error, value, fitting, *told)
        self.assert_error(error, value, telling, *told)

    def test_wrong_rules_at_each_place(self):
        for box in (PLAIN, Box([], [])):
            for error, value, rule in WRONG_RULES:
                for at in range(4):
                    menu = MENU[:at] + [rule] + MENU[at:]
                    self.check(error, value, box, menu, ["abbc"], ["ac"])
                    self.check(error, value, box, menu, ["A"], [""])

    def test_wrong_films_at_each_place(self):
        for box in (PLAIN, Box([], [])):
            for text in WRONG_TEXTS + [""]:
                self.check(InvalidFilm, text, box, MENU, [text], [])
                self.check(InvalidFilm, text, box, [], [], [text])
            for at in range(4):
                films = ["abbc", "ac", "z"]
                films[at:at] = ["A"]
                self.check(InvalidFilm, "A", box, MENU, films, ["a"])
                self.check(InvalidFilm, "A", box, MENU, ["a"], films)
                self.check(InvalidFilm, "A", box, MENU, films, [""])

    def test_two_wrong_things_at_once(self):
        for (error, value, rule), (_, _, other) in itertools.product(WRONG_RULES, repeat=2):
            self.check(error, value, PLAIN, [MENU[0], rule, other], ["A"], ["B"])
        self.check(InvalidFilm, "A", PLAIN, MENU, ["ab", "A", ""], ["B"])
        self.check(InvalidFilm, "", PLAIN, MENU, ["ab", "", "A"], ["B"])
        self.check(InvalidFilm, "B", PLAIN, MENU, ["ab"], ["ab", "B", "C"])
        # Wrong things are wrong though no set could fit.
        self.check(InvalidFilm, "B", PLAIN, [], ["zz"], ["B"])
        self.check(InvalidPiece, "9", PLAIN, [("a", "9", "", "")], ["zz"], [])


class Asking(Case):
    def test_what_is_handed_in_stays(self):
        menu, seen, unseen = list(MENU), ["abbc"], ["ac"]
        box = Box(["abc"], [])
        for _ in range(3):
            self.assertEqual(fitting(box, menu, seen, unseen), [[0], [0, 2]])
            self.assertEqual(telling(box, menu, [], unseen), "abbc")
            self.check_stay(box, menu, seen, unseen)
            self.assert_error(InvalidFilm, "A", fitting, box, menu, ["A"], [])

    def check_stay(self, box, menu, seen, unseen):
        self.assertEqual((menu, seen, unseen), (MENU, ["abbc"], ["ac"]))
        self.assertEqual((box, comes(box, "abbc"), comes(box.with_rule(MENU[0]), "abbc")), (PLAIN, False, True))


if __name__ == "__main__":
    unittest.main()

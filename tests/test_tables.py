"""Tables: splicedfilms/tables.py, and points [8] and [9]."""

import copy
import itertools
import random
import re
import unittest

from cases import Case, WRONG_TEXTS
from naive import (
    all_films, boxes_by_chance, fewest_by_rounds, is_told, sites, table_by_chance, table_by_signs, table_of_films, texts)
from samples import FEW, MANY, NO_TABLES
from splicedfilms.boxes import Box
from splicedfilms.errors import InvalidFilm
from splicedfilms.films import comes, judge_tree, tree
from splicedfilms.tables import apart, holds, is_closed, judge_table, least, table

ROUND = Box(["abc"], [("b", "c", "a", "b")])
ROUND_TABLE = ("abc", [[1, 2, 2], [2, 3, 2], [2, 2, 2], [2, 3, 4], [2, 2, 2]], [4])
# Tables that are not least: states that are not wanted, that stand twice, that are in another order.
LOOSE = [
    (("a", [[0], [0]], [0, 1]), ("a", [[0]], [0])),
    (("a", [[1], [0]], [0, 1]), ("a", [[0]], [0])),
    (("a", [[2], [1], [1]], [1]), ("a", [[1], [2], [2]], [2])),
    (("ab", [[2, 1], [1, 1], [2, 1]], [2]), ("ab", [[1, 2], [1, 2], [2, 2]], [1])),
    (("ab", [[1, 2], [0, 0], [1, 1]], []), ("ab", [[0, 0]], [])),
    (("", [[], [], []], [1, 2]), ("", [[]], [])),
    (("", [[], []], [0]), ("", [[]], [0])),
    (("ab", [[1, 2], [3, 4], [4, 3], [3, 3], [4, 4]], [3, 4]), ("ab", [[1, 1], [2, 2], [2, 2]], [2])),
    (("abc", [[4, 3, 3], [3, 3, 3], [3, 2, 1], [3, 3, 3], [3, 2, 3], [1, 1, 1]], [1]), ROUND_TABLE),
    (("bc", [[1, 1], [2, 0], [3, 1], [4, 2], [5, 3], [0, 4]], [1, 3, 5]), ("bc", [[1, 1], [0, 0]], [1])),
]


def loosened(chance, told):
    """Return a table of the same texts, whose states stand twice, in another order, and beside one that is not wanted."""
    pictures, rows, ends = told
    many = 2 * len(rows) + 1
    places = [0] + chance.sample(range(1, many), many - 1)
    loose = [[chance.randrange(many) for _ in pictures] for _ in range(many)]
    for state, row in enumerate(rows):
        for side in (0, 1):
            loose[places[2 * state + side]] = [places[2 * after + chance.randint(0, 1)] for after in row]
    marks = [places[2 * state + side] for state in ends for side in (0, 1)]
    return pictures, loose, sorted(marks + ([places[-1]] if chance.random() < 0.5 else []))


def changed(told):
    """Return the tables with one state in a row changed, or with one end more or less."""
    pictures, rows, ends = told
    found = []
    for state, column in itertools.product(range(len(rows)), range(len(pictures))):
        other = copy.deepcopy(rows)
        other[state][column] = (other[state][column] + 1) % len(rows)
        found.append((pictures, other, list(ends)))
    for state in range(len(rows)):
        found.append((pictures, copy.deepcopy(rows), sorted(set(ends) ^ {state})))
    return found


def is_naively_closed(strips, rules, told):
    """Tell whether a table is closed, as far as short films show."""
    if not all(is_told(told, strip) for strip in strips):
        return False
    films = [film for film in texts(told[0], [0, 12, 8, 6, 6][len(told[0])]) if is_told(told, film)]
    for front, behind, ahead, back in rules:
        beginnings = {film[:cut] for film in films for cut in sites(front, behind, film)}
        endings = {film[cut:] for film in films for cut in sites(ahead, back, film)}
        if not all(is_told(told, one + other) for one, other in itertools.product(beginnings, endings)):
            return False
    return True


class TablesOfBoxes(Case):
    def test_boxes_with_few_films(self):
        for strips, rules in FEW:
            box = Box(strips, rules)
            films = all_films(strips, rules)
            self.assertEqual(table(box), table_of_films(box.pictures(), films))
            for film in list(films) + texts("abcd", 4):
                self.assertIs(holds(table(box), film), film in films)

    def test_boxes_with_endless_many_films(self):
        for strips, rules, pattern, _ in MANY:
            box = Box(strips, rules)
            tails = [""] + texts(box.pictures(), 4)
            found = table_by_signs(
                box.pictures(), lambda text: tuple(bool(re.fullmatch(pattern, text + tail)) for tail in tails),
                lambda text: bool(re.fullmatch(pattern, text)))
            self.assertEqual(table(box), found)

    def test_boxes_by_chance(self):
        for strips, rules in boxes_by_chance(21, 80):
            box = Box(strips, rules)
            told = table(box)
            self.assertEqual(told[0], "".join(sorted(set("".join(strips + ["".join(rule) for rule in rules])))))
            tails = [""] + texts(told[0], 5)
            self.assertEqual(told, table_by_signs(
                told[0], lambda text: tuple(is_told(told, text + tail) for tail in tails),
                lambda text: is_told(told, text)))
            fewest, _ = fewest_by_rounds(strips, rules, 2, 100)
            self.assertTrue(all(is_told(told, film) for film in fewest))
            for film in texts(told[0], 4):
                self.assertEqual(is_told(told, film), judge_tree(box, film, tree(box, film) or ("strip", -1)))
            self.assertFalse(is_told(told, ""))
            self.assertTrue(is_naively_closed(strips, rules, told))

    def test_boxes_without_films_or_rules(self):
        for strips, rules, told in [
            ([], [], ("", [[]], [])),
            ([], [("a", "", "c", "b")], ("abc", [[0, 0, 0]], [])),
            (["b"], [], ("b", [[1], [2], [2]], [1])),
            (["ba", "b"], [], ("ab", [[1, 2], [1, 1], [3, 1], [1, 1]], [2, 3])),
            (["a"], [("b", "c", "d", "e")], ("abcde", [[1] + [2] * 4, [2] * 5, [2] * 5], [1])),
            (["a"], [("a", "b", "", "a")], ("ab", [[1, 2], [2, 2], [2, 2]], [1])),
        ]:
            self.assertEqual(table(Box(strips, rules)), told)

    def test_strips_and_rules_that_stand_twice(self):
        strips, rules = ["abc", "ba"], [("b", "c", "a", "b"), ("b", "", "", "a")]
        told = table(Box(strips, rules))
        for box in (Box(strips * 2, rules), Box(strips, rules * 2), Box(strips[::-1] * 2, rules[::-1] * 2)):
            self.assertEqual(table(box), told)

    def test_the_told_lists_are_new(self):
        for strips, rules in FEW[:6] + [(["abc"], [("b", "c", "a", "b")])]:
            self.assert_new_lists(table, Box(strips, rules))
        box = Box(["abc"], [("b", "c", "a", "b")])
        told = table(box)
        told[1][1][1] = 0
        told[2].insert(0, 0)
        self.assertEqual(table(box), ROUND_TABLE)
        self.assertIs(judge_table(box, ROUND_TABLE), True)
        self.assertIs(judge_table(box, told), False)
        self.assertEqual(table(box.with_strip("abc")), ROUND_TABLE)

    def test_by_name(self):
        self.assertEqual(table(box=ROUND), ROUND_TABLE)


class NoTables(Case):
    def test_each_kind(self):
        for told in NO_TABLES:
            self.assert_no_table(told, holds, told, "a")
            self.assert_no_table(told, is_closed, ROUND, told)
            self.assert_no_table(told, judge_table, ROUND, told)
            self.assert_no_table(told, least, told)
            self.assert_no_table(told, apart, told, ROUND_TABLE)
            self.assert_no_table(told, apart, ROUND_TABLE, told)

    def test_the_first_one_of_two(self):
        for one, other in zip(NO_TABLES, NO_TABLES[1:]):
            self.assert_no_table(one, apart, one, other)

    def test_a_list_that_stands_in_several_places(self):
        row = [0, 0, 3]
        told = ("abc", [row, row, row], row)
        self.assert_no_table(told, least, told)
        self.assert_no_table(told, apart, told, told)

    def test_a_table_is_asked_for_ahead_of_a_film(self):
        for text in WRONG_TEXTS + [""]:
            self.assert_no_table(NO_TABLES[0], holds, NO_TABLES[0], text)
            self.assert_error(InvalidFilm, text, holds, ROUND_TABLE, text)
            self.assert_error(InvalidFilm, text, holds, ("a", [[0]], [0]), text)

    def test_boxes_that_hold_nothing(self):
        for box in (Box([], []), Box(["b"], [])):
            self.assert_no_table(NO_TABLES[3], is_closed, box, NO_TABLES[3])
            self.assert_no_table(NO_TABLES[-1], judge_table, box, NO_TABLES[-1])


class Holding(Case):
    def test_films(self):
        told = ("bd", [[1, 0], [1, 2], [2, 2]], [0, 2])
        for film in texts("abd", 5):
            self.assertIs(holds(told, film), is_told(told, film))
        self.assertIs(holds(told, "bd"), True)
        self.assertIs(holds(told, "bda"), False)
        self.assertIs(holds(told, "abd"), False)
        self.assertIs(holds(film="d", told=told), True)

    def test_tables_without_pictures(self):
        self.assertIs(holds(("", [[]], [0]), "a"), False)

    def test_tables_that_are_not_least(self):
        for loose, tight in LOOSE:
            for film in texts("abc", 5):
                self.assertIs(holds(loose, film), is_told(loose, film))
                self.assertEqual(is_told(loose, film), is_told(tight, film))

    def test_long_films(self):
        told = ("ab", [[(3 * at + 1) % 40, at] for at in range(40)], [0, 7, 39])
        for size in range(390, 401):
            film = ("a" * 7 + "b") * 50
            self.assertIs(holds(told, film[:size]), is_told(told, film[:size]))


class Least(Case):
    def test_tables_that_are_not_least(self):
        for loose, tight in LOOSE:
            before = copy.deepcopy(loose)
            found = least(loose)
            self.assertEqual(loose, before)
            self.assertEqual(found, tight)
            self.assertEqual(least(found), found)
            self.assertEqual(least(told=loose), found)
            self.assert_new_lists(least, loose)

    def test_tables_by_chance(self):
        chance = random.Random(5)
        for _ in range(300):
            told = table_by_chance(chance, chance.choice(["", "a", "bc", "abc"]), 4)
            tails = [""] + texts(told[0], 4)
            expected = table_by_signs(
                told[0], lambda text: tuple(is_told(told, text + tail) for tail in tails),
                lambda text: is_told(told, text))
            self.assertEqual(least(told), expected)
            self.assertEqual(least(loosened(chance, told)), expected)

    def test_tables_of_boxes_are_least(self):
        for strips, rules in FEW + [sample[:2] for sample in MANY]:
            told = table(Box(strips, rules))
            self.assertEqual(least(told), told)

    def test_great_tables(self):
        rows = [[(at + 1) % 40] * 6 for at in range(40)]
        self.assertEqual(least(("abcdef", rows, [39])), ("abcdef", rows, [39]))
        self.assertEqual(least(("abcdef", rows, [3, 13, 23, 33])), ("abcdef", [[(at + 1) % 10] * 6 for at in range(10)], [3]))
        self.assertEqual(least(("abcdef", rows, list(range(40)))), ("abcdef", [[0] * 6], [0]))


class Apart(Case):
    def test_the_empty_text(self):
        for one, other in [
            (("a", [[0]], [0]), ("a", [[1], [1]], [1])), (("", [[]], [0]), ("", [[]], [])), (ROUND_TABLE, ("", [[]], [0])),
        ]:
            self.assertEqual((apart(one, other), apart(other, one)), ("", ""))

    def test_tables_with_unlike_pictures(self):
        for one, other, text in [
            (("a", [[1], [1]], [1]), ("ab", [[1, 1], [1, 1]], [1]), "b"),
            (("a", [[1], [1]], [1]), ("ab", [[1, 2], [1, 2], [2, 2]], [1]), None),
            (("a", [[0]], [0]), ("", [[]], [0]), "a"),
            (("b", [[0]], [0]), ("a", [[0]], [0]), "a"),
            (("z", [[0]], []), ("", [[]], []), None),
            (("ac", [[1, 0], [1, 1]], [1]), ("ab", [[1, 0], [1, 1]], [1]), "ab"),
        ]:
            self.assertEqual((apart(one, other), apart(other, one)), (text, text))

    def test_tables_by_chance(self):
        chance = random.Random(6)
        seen = [0, 0]
        for _ in range(400):
            one = table_by_chance(chance, chance.choice(["", "a", "ab", "bc"]), 3)
            other = table_by_chance(chance, chance.choice(["", "a", "ab", "bc"]), 3)
            unlike = [text for text in [""] + texts("abc", 6) if is_told(one, text) != is_told(other, text)]
            expected = unlike[0] if unlike else None
            before = copy.deepcopy((one, other))
            self.assertEqual((apart(one, other), apart(other=one, one=other)), (expected, expected))
            self.assertEqual((one, other), before)
            self.assertEqual(apart(loosened(chance, one), other), expected)
            self.assertIsNone(apart(loosened(chance, one), one))
            seen[expected is None] += 1
        self.assertGreater(min(seen), 20)

    def test_the_first_text_and_a_long_one(self):
        one = ("ab", [[(at + 1) % 40, (at + 1) % 40] for at in range(40)], [0])
        other = ("ab", [[(at + 1) % 39, (at + 1) % 39] for at in range(39)], [0])
        self.assertEqual(apart(one, other), "a" * 39)
        late = ("ab", [[1, 2], [3, 4], [4, 3], [3, 3], [4, 4]], [3])
        self.assertEqual(apart(late, ("ab", [[0, 0]], [])), "aa")
        self.assertEqual(apart(late, ("ab", [[1, 1], [2, 2], [2, 2]], [2])), "ab")

    def test_great_tables(self):
        one = ("abcdef", [[(at * 7 + column) % 40 for column in range(6)] for at in range(40)], list(range(40)))
        self.assertIsNone(apart(one, one))
        self.assertIsNone(apart(one, ("abcdef", [[0] * 6], [0])))
        many = ("abcde", [[(at * 7 + column) % 200 for column in range(5)] for at in range(200)], list(range(200)))
        self.assertIsNone(apart(many, ("abcde", [[(at + 3) % 199] * 5 for at in range(199)], list(range(199)))))


class Closed(Case):
    def test_tables_near_the_right_one(self):
        right, closed = [0, 0], [0, 0]
        samples = [(["abc"], [("b", "c", "a", "b")]), (["ab"], [("b", "", "", "b")]), (["a", "ba"], [("a", "", "b", "a")])]
        samples += [sample[:2] for sample in MANY] + FEW[:6]
        for strips, rules in samples:
            box = Box(strips, rules)
            told = table(box)
            for near in changed(told) + [told]:
                before = copy.deepcopy(near)
                same = all(is_told(near, text) == is_told(told, text) for text in [""] + texts(told[0], 6))
                kept = is_naively_closed(strips, rules, near)
                self.assertIs(judge_table(box, near), same, (strips, rules, near))
                self.assertIs(is_closed(box, near), kept, (strips, rules, near))
                self.assertEqual(near, before)
                right[same] += 1
                closed[kept] += 1
        self.assertGreater(min(right + closed), 15)

    def test_tables_by_chance(self):
        chance = random.Random(7)
        seen = [0, 0]
        for _ in range(400):
            told = table_by_chance(chance, "ab", 4)
            films = [film for film in texts("ab", 3) if is_told(told, film)]
            strips = chance.sample(films, min(len(films), 1))
            rules = [tuple(chance.choice(["", "a", "b", "ab"][least_size:]) for least_size in (1, 0, 0, 1))]
            kept = is_naively_closed(strips, rules, told)
            self.assertIs(is_closed(Box(strips, rules), told), kept)
            self.assertIs(is_closed(Box(strips, rules), loosened(chance, told)), kept)
            seen[kept] += 1
        self.assertGreater(min(seen), 40)

    def test_what_a_closed_table_holds(self):
        chance = random.Random(8)
        seen = 0
        for strips, rules in boxes_by_chance(9, 150):
            box = Box(strips, rules)
            for told in (table(Box(strips, [])), table(box), table(box.with_strip("ab")), table_by_chance(chance, "abc", 3)):
                if is_closed(box, told):
                    seen += 1
                    self.assertTrue(all(is_told(told, film) for film in texts("abc", 4) if comes(box, film)))
        self.assertGreater(seen, 150)

    def test_the_right_table_in_another_form(self):
        chance = random.Random(10)
        for strips, rules in FEW + [sample[:2] for sample in MANY]:
            box = Box(strips, rules)
            for _ in range(3):
                loose = loosened(chance, table(box))
                self.assertEqual((judge_table(box, loose), is_closed(box, loose)), (True, True))

    def test_pictures_that_the_box_has_not(self):
        box = Box(["b"], [("b", "", "", "b")])
        wider = ("abc", [[1, 2, 1], [1, 1, 1], [1, 2, 1]], [2])
        self.assertEqual((judge_table(box, wider), is_closed(box, wider)), (True, True))
        self.assertIs(judge_table(Box([], []), ("a", [[0]], [])), True)
        self.assertIs(judge_table(Box([], [("a", "", "", "a")]), ("", [[]], [])), True)
        self.assertIs(judge_table(Box(["a"], []), ("", [[]], [])), False)

    def test_rules_with_pictures_that_the_table_has_not(self):
        told = ("a", [[1], [2], [2]], [1])
        for rule in [("b", "", "", "a"), ("a", "b", "", "a"), ("a", "", "b", "a"), ("a", "", "", "b"), ("a", "", "", "ab")]:
            self.assertIs(is_closed(Box(["a"], [rule]), told), True)
        self.assertIs(is_closed(Box(["a"], [("a", "", "", "a")]), told), False)

    def test_the_empty_text(self):
        box = Box(["a"], [("a", "", "", "a")])
        every = ("a", [[0]], [0])
        self.assertEqual((judge_table(box, every), is_closed(box, every)), (False, True))
        self.assertEqual((judge_table(Box([], []), ("", [[]], [0])), is_closed(Box([], []), ("", [[]], [0]))), (False, True))

    def test_states_to_which_no_text_leads(self):
        # From the third state the splice would be lacking, and the second film would go on.
        box = Box(["ab"], [("a", "", "", "b")])
        told = ("ab", [[1, 4], [4, 3], [5, 5], [4, 4], [4, 4], [3, 4]], [3])
        self.assertEqual((judge_table(box, told), is_closed(box, told)), (True, True))

    def test_states_from_which_no_text_leads_to_an_end(self):
        for rule in [("b", "b", "a", "b"), ("a", "", "b", "b"), ("a", "a", "", "b"), ("bb", "", "", "b")]:
            self.assertIs(is_closed(Box(["ab"], [rule]), table(Box(["ab"], []))), True)
        self.assertIs(is_closed(Box(["ab"], [("b", "", "a", "b")]), table(Box(["ab"], []))), False)

    def test_strips_that_are_lacking(self):
        self.assertIs(is_closed(Box(["a", "b"], []), table(Box(["a"], []))), False)
        self.assertIs(is_closed(Box(["a", "b"], []), table(Box(["a", "b"], []))), True)
        self.assertIs(is_closed(box=Box([], []), told=("", [[]], [])), True)
        self.assertIs(judge_table(told=ROUND_TABLE, box=ROUND), True)

    def test_great_tables(self):
        rows = [[(at + 1) % 40, 39 - at] + [at] * 4 for at in range(40)]
        box = Box(["aa"], [("a", "", "", "a"), ("b", "", "", "c"), ("f", "", "", "f")])
        self.assertIs(is_closed(box, ("abcdef", rows, list(range(40)))), True)
        self.assertIs(judge_table(box, ("abcdef", rows, list(range(1, 40)))), False)

    def test_what_a_box_was_asked_does_not_tell_on_later_answers(self):
        box = Box(["abc"], [("b", "c", "a", "b")])
        wrong = table(box.with_strip("a"))
        for _ in range(2):
            self.assertEqual([judge_table(box, ROUND_TABLE), is_closed(box, wrong), judge_table(box, wrong)],
                             [True, True, False])
            self.assertEqual(table(box.with_strip("a")), wrong)
            self.assertEqual(table(box.without_rule(0)), table(Box(["abc"], [])))
            self.assertEqual(table(box + Box(["a"], [])), wrong)
            self.assertEqual((box, table(box)), (ROUND, ROUND_TABLE))


if __name__ == "__main__":
    unittest.main()

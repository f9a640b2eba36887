"""From tables back to boxes: splicedfilms/origins.py, and points [2], [3], [4], [5], [8] and [9]."""

import copy
import itertools
import random
import unittest

from cases import Case, WRONG_TEXTS, spoil
from naive import boxes_by_chance, in_order, is_told, sites, table_by_chance, texts
from samples import FEW, MANY, NO_TABLES, WRONG_RULES
from splicedfilms import compare, fewest, films, joints, questions, readings, seams
from splicedfilms.boxes import Box
from splicedfilms.errors import InvalidNumber, InvalidPiece, NoSplice
from splicedfilms.films import comes
from splicedfilms.origins import broken, greatest_box, kept_rules, unmade
from splicedfilms.tables import apart, holds, is_closed, judge_table, table
from splicedfilms.texts import show_box

BEES = ("ab", [[1, 2], [2, 3], [2, 2], [2, 3]], [3])
ALL = ("ab", [[0, 0]], [0])
# Films of two pictures, and the empty text.
PAIRS = ("ab", [[1, 1], [2, 2], [3, 3], [3, 3]], [0, 2])
RULES = list(itertools.product("ab", ["", "a", "b"], ["", "a", "b"], "ab"))


def rules_of(pictures, size):
    """Return all rules of pieces of at most so many pictures, ascending."""
    pieces = [""] + texts(pictures, size)
    return sorted(rule for rule in itertools.product(pieces, repeat=4) if rule[0] and rule[3])


def held(told, length):
    """Return the films of at most a length that a table holds, in their order."""
    return [film for film in texts(told[0], length) if is_told(told, film)]


def broken_by_films(told, rule, length):
    """Return the splices of films of at most a length that a table holds, such as it does not hold, in their order."""
    front, behind, ahead, back = rule
    known = held(told, length)
    beginnings = {film[:cut] for film in known for cut in sites(front, behind, film)}
    ends = {film[cut:] for film in known for cut in sites(ahead, back, film)}
    return in_order({one + other for one in beginnings for other in ends if not is_told(told, one + other)})


def tables_by_chance(seed, number):
    chance = random.Random(seed)
    return [table_by_chance(chance, chance.choice(["", "a", "b", "ab", "ab", "ac", "bd"]), 4) for _ in range(number)]


def least_of(parts):
    """Return the parts of which no other one is a part, by their sizes, then as tuples."""
    least = [
        one for one in parts
        if not any(other != one and set(other[0]) <= set(one[0]) and set(other[1]) <= set(one[1]) for other in parts)
    ]
    return sorted(least, key=lambda part: (len(part[0]) + len(part[1]), part))


class Broken(Case):
    def test_tables_by_chance(self):
        seen = [0, 0]
        chance = random.Random(1)
        for told in tables_by_chance(81, 300):
            for rule in chance.sample(rules_of(told[0] or "a", 1), 2) + chance.sample(rules_of("abc", 2), 1):
                found = broken(told, rule)
                short = broken_by_films(told, rule, 7)
                seen[found is None] += 1
                if found is None:
                    self.assertEqual(short, [])
                else:
                    self.check_broken(told, rule, found)
                    self.assertTrue(not short or in_order([found, short[0]])[0] == found)
                    # What is short comes of films that are short, as a table of four states goes on by three pictures.
                    if len(found) <= 2:
                        self.assertEqual(short[0], found)
        self.assertGreater(min(seen), 100)

    def check_broken(self, told, rule, found):
        front, behind, ahead, back = rule
        rests = [""] + texts(told[0], 3)
        self.assertIs(is_told(told, found), False)
        self.assertTrue(any(
            found[:at].endswith(front) and found[at:].startswith(back)
            and any(is_told(told, found[:at] + behind + rest) for rest in rests)
            and any(is_told(told, rest + ahead + found[at:]) for rest in rests)
            for at in range(len(found))
        ), (told, rule, found))

    def test_tables_of_boxes_keep_their_rules(self):
        for strips, rules in FEW + [sample[:2] for sample in MANY] + boxes_by_chance(82, 40):
            told = table(Box(strips, rules))
            self.assertEqual([broken(told, rule) for rule in rules], [None] * len(rules))
            plain = table(Box(strips, []))
            for rule in rules:
                # Of finitely many films all splices can be gone through.
                short = broken_by_films(plain, rule, 5)
                self.assertEqual(broken(plain, rule), short[0] if short else None)
                self.assertIs(broken(plain, rule) is None, is_closed(Box([], [rule]), plain))

    def test_samples(self):
        self.assertEqual([broken(BEES, ("a", behind, "", "a")) for behind in ("", "a", "b")], ["aab", None, "aab"])
        self.assertEqual(broken(BEES, ("b", "", "", "a")), "abab")
        self.assertEqual(broken(BEES, ("a", "", "", "a")), "aab")
        self.assertEqual(broken(BEES, ("a", "b", "", "a")), "aab")
        self.assertEqual(broken(BEES, ("bb", "b", "", "a")), "abbab")
        for rule in [("a", "b", "", "b"), ("a", "a", "", "a"), ("b", "a", "", "a"), ("b", "", "b", "a"), ("b", "", "a", "a"),
                     ("z", "", "", "a"), ("b", "", "", "z"), ("b", "z", "", "a"), ("b", "", "z", "a"), ("b", "bbb", "", "b")]:
            self.assertIsNone(broken(BEES, rule), rule)
        self.assertEqual([broken(ALL, rule) for rule in RULES], [None] * 36)

    def test_the_empty_text_is_no_film(self):
        # A film is spliced with itself or with another one, and never with the empty text that the table holds.
        self.assertEqual(broken(PAIRS, ("a", "", "", "b")), "aab")
        self.assertIsNone(broken(PAIRS, ("a", "b", "b", "a")))
        self.assertIsNone(broken(("a", [[1], [1]], [0]), ("a", "", "", "a")))
        self.assertIsNone(broken(("", [[]], [0]), ("a", "", "", "a")))
        self.assertEqual(broken(("a", [[1], [2], [2]], [0, 1]), ("a", "", "", "a")), "aa")

    def test_states_that_are_not_wanted(self):
        # Ends that no text reaches hold no films.
        self.assertIsNone(broken(("ab", [[0, 1], [1, 1], [2, 2], [2, 2]], [0, 2, 3]), ("a", "", "", "a")))
        self.assertIsNone(broken(("a", [[0], [1]], [1]), ("a", "", "", "a")))
        self.assertEqual(broken(("ab", [[3, 1], [1, 1], [2, 3], [1, 1]], [2, 3]), ("a", "", "", "a")), "aa")

    def test_great_tables(self):
        ring = ("abcdef", [[(at + 1) % 40] * 6 for at in range(40)], [39])
        self.assertEqual(broken(ring, ("a", "", "", "f")), "af")
        self.assertIsNone(broken(ring, ("z", "", "", "f")))
        self.assertIsNone(broken(("abcdef", ring[1], list(range(40))), ("a", "bc", "de", "f")))
        line = ("abcdef", [[min(at + 1, 39)] * 6 for at in range(40)], [38])
        self.assertEqual(broken(line, ("ab", "c", "c", "de")), "abde")
        self.assertEqual(broken(line, ("a" * 20, "", "b" * 20, "c")), "a" * 20 + "c")
        self.assertIsNone(broken(line, ("a" * 20, "", "b" * 20, "c" * 19)))
        self.assertEqual(broken(line, ("a" * 20, "b" * 18, "b" * 18, "c" * 19)), "a" * 20 + "c" * 19)
        deep = ("ab", [[at + 1, 39] for at in range(38)] + [[38, 39], [39, 39]], [38])
        self.assertEqual(broken(deep, ("a", "", "", "a")), "aa")
        self.assertIsNone(broken(deep, ("a" * 38, "", "", "a")))

    def test_errors_in_their_order(self):
        for told in NO_TABLES:
            self.assert_no_table(told, broken, told, ("a", "", "", "a"))
            for _, _, rule in WRONG_RULES:
                self.assert_no_table(told, broken, told, rule)
        for told in (BEES, ALL, ("", [[]], [])):
            for error, value, rule in WRONG_RULES:
                self.assert_error(error, value, broken, told, rule)
            for text in WRONG_TEXTS:
                for at in range(4):
                    self.assert_error(InvalidPiece, text, broken, told, ("b",) * at + (text,) + ("a",) * (3 - at))


class KeptRules(Case):
    def test_tables_by_chance(self):
        seen = [0, 0]
        for told in tables_by_chance(83, 60) + [BEES, ALL, PAIRS]:
            rules = rules_of(told[0], 1)
            expected = [rule for rule in rules if broken(told, rule) is None]
            self.assertEqual(kept_rules(told, 1), expected)
            seen[0] += len(expected)
            seen[1] += len(rules) - len(expected)
        self.assertGreater(min(seen), 100)

    def test_tables_of_two_pictures_and_six_states_by_their_films(self):
        chance = random.Random(2)
        for _ in range(6):
            told = table_by_chance(chance, "ab", 6)
            for rule in kept_rules(told, 1):
                self.assertEqual(broken_by_films(told, rule, 7), [])

    def test_sizes(self):
        for told in (BEES, ALL, PAIRS, ("a", [[0]], [0]), ("", [[]], [0])):
            self.assertEqual(kept_rules(told, 0), [])
        self.assertEqual(kept_rules(("", [[]], [0]), 1), [])
        self.assertEqual(kept_rules(ALL, 1), RULES)
        self.assertEqual(kept_rules(("c", [[0]], []), 1), list(itertools.product("c", ["", "c"], ["", "c"], "c")))
        ones = ("b", [[1], [2], [2]], [1])
        self.assertEqual(kept_rules(ones, 1), [("b", *middle, "b") for middle in [("", "b"), ("b", ""), ("b", "b")]])
        self.assertEqual(kept_rules(ones, 2), [rule for rule in rules_of("b", 2) if broken(ones, rule) is None])
        # With pieces of two pictures the rules stand in the order of texts.
        told = kept_rules(ALL, 2)
        self.assertEqual((told, len(told)), (rules_of("ab", 2), 6 * 7 * 7 * 6))

    def test_rules_of_pictures_that_no_film_has(self):
        told = ("ab", [[1, 2], [2, 2], [2, 2]], [1])
        self.assertEqual(kept_rules(told, 1), [rule for rule in RULES if rule != ("a", "", "", "a")])
        self.assertEqual(kept_rules(("ab", [[0, 0]], []), 1), RULES)

    def test_the_told_lists_are_new(self):
        self.assertEqual(len(self.assert_new_lists(kept_rules, copy.deepcopy(BEES), 1)), 32)


class GreatestBox(Case):
    def test_tables_by_chance(self):
        for told in tables_by_chance(84, 60) + [BEES, ALL, PAIRS]:
            for length in range(5):
                box = greatest_box(told, length, 1)
                self.assertEqual(box, Box(held(told, length), kept_rules(told, 1)))
                self.assertEqual(greatest_box(told, length, 0), Box(held(told, length), []))

    def test_sizes(self):
        self.assertEqual(greatest_box(ALL, 0, 0), Box([], []))
        self.assertEqual(greatest_box(ALL, 0, 1), Box([], RULES))
        self.assertEqual(greatest_box(ALL, 2, 0), Box(["a", "b", "aa", "ab", "ba", "bb"], []))
        self.assertEqual((len(greatest_box(ALL, 4, 1).strips), len(greatest_box(ALL, 4, 1))), (30, 36))
        self.assertEqual(greatest_box(PAIRS, 4, 0).strips, ["aa", "ab", "ba", "bb"])
        self.assertEqual(greatest_box(("", [[]], [0]), 4, 1), Box([], []))

    def test_all_comes_about_within_the_table(self):
        for told in tables_by_chance(85, 40):
            box = greatest_box(told, 3, 1)
            self.assertIs(is_closed(box, told), True)
            for film in texts("ab", 4):
                self.assertTrue(not comes(box, film) or holds(told, film))

    def test_questions_of_greatest_boxes(self):
        for told in tables_by_chance(86, 20) + [ALL, BEES]:
            box = greatest_box(told, 4, 1)
            made = table(box)
            self.assertIs(judge_table(box, made), True)
            self.assertIs(is_closed(box, made), True)
            self.assertIs(judge_table(box, told), unmade(told, 4, 1) is None and not is_told(told, ""))

    def test_the_greatest_of_all_boxes(self):
        box = greatest_box(ALL, 4, 1)
        self.assertEqual(table(box), ("ab", [[1, 1], [1, 1]], [1]))
        self.assertEqual([questions.number(box, length) for length in (0, 1, 24)], [0, 2, 2 ** 24])
        self.assertEqual((questions.is_endless(box), questions.film_at(box, 29), questions.rank(box, "aaaaa")), (True, "bbbb", 30))
        self.assertEqual((joints.looks_back(box), joints.joints(box, 1), joints.torn(box, "ab")), (1, ["a", "b"], None))
        self.assertEqual((compare.needless_rules(box), compare.needless_strips(box)), (list(range(36)), list(range(2, 30))))
        self.assertIsNone(compare.brings(box, ("aa", "b", "", "b")))
        self.assertIs(compare.alike(box, Box(["a", "b"], [(x, "", "", y) for x in "ab" for y in "ab"])), True)
        film = "ab" * 12
        told = films.tree(box, film)
        self.assertEqual((films.film_of(box, told), films.splices(told), fewest.fewest(box, film)), (film, 5, 5))
        self.assertEqual((fewest.fewest_with(box, "a" * 9), fewest.fewest_long(box, 60)), (2, 14))
        self.assertEqual((seams.beyond(box, 0), seams.seams(box, "a"), len(seams.seams(box, "ab"))), ("aaaaa", [], 9))
        self.assert_error(NoSplice, 23, seams.tree_at, box, film, 0, 23)
        self.assertEqual(films.film_of(box, seams.tree_at(box, film, *seams.seams(box, film)[0])), film)
        self.assertEqual((show_box(box).count("; "), readings.read_box(show_box(box))), (36, box))

    def test_parts_of_greatest_boxes_of_one_picture(self):
        for told in (("a", [[0]], [0]), ("a", [[1], [0]], [1]), ("a", [[1], [2], [3], [3]], [2, 3])):
            box = greatest_box(told, 4, 1)
            strips, rules = box.strips, box.rules
            parts = [
                (list(some), list(others))
                for many in range(len(strips) + 1) for some in itertools.combinations(range(len(strips)), many)
                for more in range(len(rules) + 1) for others in itertools.combinations(range(len(rules)), more)
            ]
            lesser = [Box([strips[at] for at in some], [rules[at] for at in others]) for some, others in parts]
            expected = least_of([part for part, made in zip(parts, lesser) if compare.alike(box, made)])
            self.assertEqual(compare.least_boxes(box), expected)
            for film in ("a", "aaa", "aaaaa", "a" * 24):
                expected = least_of([part for part, made in zip(parts, lesser) if comes(made, film)])
                self.assertEqual(seams.reasons(box, film), expected)


class Unmade(Case):
    def test_tables_by_chance(self):
        seen = [0, 0]
        for told in tables_by_chance(87, 100) + [BEES, ALL, PAIRS]:
            for length, size in ((0, 1), (1, 1), (2, 0), (3, 1), (4, 1)):
                box = greatest_box(told, length, size)
                found = unmade(told, length, size)
                lacking = [film for film in held(told, 5) if not comes(box, film)]
                seen[found is None] += 1
                if lacking:
                    self.assertEqual(found, lacking[0])
                elif found is not None:
                    self.assertTrue(len(found) > 5 and is_told(told, found) and not comes(box, found))
                else:
                    one = apart(table(box), told)
                    self.assertTrue(one is None or one == "" and is_told(told, ""))
        self.assertGreater(min(seen), 80)

    def test_tables_of_boxes_of_these_sizes(self):
        many = 0
        for strips, rules in boxes_by_chance(88, 300) + [(["a", "bb"], []), (["ab"], [("b", "", "", "b")])]:
            told = table(Box(strips, rules))
            if told[0] <= "ab" and len(told[1]) <= 6 and all(len(piece) < 2 for rule in rules for piece in rule):
                length = max(map(len, strips))
                if length <= 4:
                    many += 1
                    self.assertIsNone(unmade(told, length, 1))
                    self.assertIs(judge_table(greatest_box(told, length, 1), told), True)
        self.assertGreater(many, 5)

    def test_the_empty_text(self):
        # All films come about, but for the empty text, which is none.
        self.assertIsNone(unmade(ALL, 1, 1))
        self.assertEqual((unmade(ALL, 0, 1), unmade(ALL, 0, 0), unmade(ALL, 1, 0)), ("a", "a", "aa"))
        self.assertIsNone(unmade(("", [[]], [0]), 0, 0))
        self.assertIsNone(unmade(("a", [[1], [1]], [0]), 4, 1))
        self.assertEqual(unmade(("a", [[1], [0]], [0]), 0, 1), "aa")
        self.assertEqual((unmade(PAIRS, 1, 1), unmade(PAIRS, 2, 1)), ("aa", None))
        # The beginning of each film leads back to where the empty text stands.
        self.assertEqual(unmade(("ab", [[1, 1], [0, 0]], [0]), 2, 0), "aaaa")
        self.assertEqual(unmade(("b", [[0]], [0]), 0, 0), "b")

    def test_films_that_no_box_of_these_sizes_makes(self):
        # Films of an even number of pictures.
        evens = ("a", [[1], [2], [1]], [2])
        self.assertEqual([unmade(evens, length, 1) for length in range(5)], ["aa", "aa", "aaaa", "aaaa", "aaaaaa"])
        self.assertEqual(unmade(BEES, 1, 1), "ab")
        self.assertEqual([unmade(BEES, length, 0) for length in range(5)], ["ab", "ab", "abb", "abbb", "abbbb"])

    def test_by_name(self):
        self.assertEqual(broken(rule=("b", "", "", "a"), told=BEES), "abab")
        self.assertEqual(len(kept_rules(size=1, told=BEES)), 32)
        self.assertEqual(greatest_box(size=0, length=2, told=BEES), Box(["ab"], []))
        self.assertEqual(unmade(size=1, length=1, told=BEES), "ab")


class Numbers(Case):
    def test_errors_in_their_order(self):
        for told in NO_TABLES:
            for length, size in ((1, 1), (-1, 1), (1, -1), (-2, -3)):
                self.assert_no_table(told, greatest_box, told, length, size)
                self.assert_no_table(told, unmade, told, length, size)
                self.assert_no_table(told, kept_rules, told, size)
        for told in (BEES, ALL, ("", [[]], [0])):
            for wrong in (-1, -2, -10 ** 30):
                self.assert_error(InvalidNumber, wrong, kept_rules, told, wrong)
                for call in (greatest_box, unmade):
                    self.assert_error(InvalidNumber, wrong, call, told, wrong, 1)
                    self.assert_error(InvalidNumber, wrong, call, told, 1, wrong)
                    self.assert_error(InvalidNumber, wrong, call, told, 0, wrong)
                    self.assert_error(InvalidNumber, wrong, call, told, wrong, -7)


class Lists(Case):
    def test_tables_that_are_handed_in_stay(self):
        for told in tables_by_chance(89, 20) + [copy.deepcopy(BEES), copy.deepcopy(ALL)]:
            before = copy.deepcopy(told)
            for _ in range(2):
                broken(told, ("a", "", "", "b"))
                kept_rules(told, 1)
                greatest_box(told, 3, 1)
                unmade(told, 2, 1)
                self.assertEqual(told, before)

    def test_tables_that_are_changed_behind_the_call(self):
        told = copy.deepcopy(BEES)
        rules, box, first = kept_rules(told, 1), greatest_box(told, 3, 1), unmade(told, 1, 1)
        kept = (list(rules), box.strips, box.rules, table(box))
        spoil(told)
        self.assertEqual((rules, box.strips, box.rules, table(box), first), kept + ("ab",))
        self.assertEqual((kept_rules(BEES, 1), greatest_box(BEES, 3, 1), unmade(BEES, 1, 1)), (rules, box, "ab"))

    def test_told_tables_that_are_changed(self):
        box = greatest_box(BEES, 3, 1)
        told = table(box)
        self.assertIsNone(broken(told, ("a", "b", "", "b")))
        spoil(told)
        box.strips.clear()
        box.rules.reverse()
        self.assertEqual((table(box), box), (BEES, greatest_box(BEES, 3, 1)))
        self.assertIs(judge_table(box, BEES), True)

    def test_the_same_again_behind_other_questions(self):
        for _ in range(3):
            self.assertEqual(broken(BEES, ("b", "", "", "a")), "abab")
            self.assertEqual([unmade(BEES, 2, 1), unmade(ALL, 0, 1), unmade(BEES, 1, 1)], [None, "a", "ab"])
            self.assert_error(InvalidNumber, -1, unmade, BEES, 1, -1)
            self.assertEqual(greatest_box(BEES, 2, 1).strips, ["ab"])
            self.assertEqual(kept_rules(PAIRS, 0), [])


if __name__ == "__main__":
    unittest.main()

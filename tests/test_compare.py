"""Boxes against boxes: splicedfilms/compare.py, and points [5], [6], [8] and [9]."""

import itertools
import re
import unittest

from cases import Case, WRONG_TEXTS
from naive import all_films, boxes_by_chance, in_order, texts
from samples import FEW, MANY, WRONG_RULES
from splicedfilms.boxes import Box
from splicedfilms.compare import alike, brings, first_more, first_unlike, least_boxes, needless_rules, needless_strips
from splicedfilms.errors import InvalidPiece, InvalidRule
from splicedfilms.films import comes
from splicedfilms.tables import apart, is_closed, table

ROUND = Box(["abc"], [("b", "c", "a", "b")])
NONE = [Box([], []), Box([], [("a", "", "c", "b")])]
# Boxes by each of which the same films come about: ab, abb, abbb and so on.
SAME = [
    Box(["ab"], [("b", "", "", "b")]),
    Box(["ab", "ab"], [("b", "", "", "b")]),
    Box(["ab"], [("b", "", "", "b"), ("b", "", "", "b")]),
    Box(["ab"], [("b", "", "a", "b")]),
    Box(["ab", "abbb"], [("ab", "", "", "b")]),
    Box(["abbb", "ab"], [("ab", "", "", "b")]),
    Box(["ab"], [("ab", "", "a", "b"), ("b", "a", "", "b")]),
    Box(["ab"], [("b", "a", "", "b"), ("ab", "", "a", "b")]),
    Box(["ab"], [("b", "", "", "b"), ("c", "d", "e", "f")]),
]


def first(films):
    return next(iter(in_order(films)), None)


def has(box):
    """Return a function that tells whether a film comes about by a box of `MANY`."""
    patterns = [sample[2] for sample in MANY if sample[:2] == (box.strips, box.rules)]
    return lambda film: re.fullmatch(patterns[0], film) is not None


def parts(things):
    """Return all lists of indexes, ascending."""
    return [list(row) for size in range(len(things) + 1) for row in itertools.combinations(range(len(things)), size)]


def least_by_parts(strips, rules, is_same):
    """Return the least boxes; `is_same` tells of strips and rules whether the same films come about."""
    found = [
        (some, others) for some in parts(strips) for others in parts(rules)
        if is_same([strips[at] for at in some], [rules[at] for at in others])
    ]
    least = [
        one for one in found
        if not any(other != one and set(other[0]) <= set(one[0]) and set(other[1]) <= set(one[1]) for other in found)
    ]
    return sorted(least, key=lambda told: (len(told[0]) + len(told[1]), told))


class TwoBoxes(Case):
    def check_pair(self, one, other, unlike, more):
        self.assertEqual(first_unlike(one, other), unlike, (one.strips, one.rules, other.strips, other.rules))
        self.assertEqual(first_unlike(other, one), unlike)
        self.assertIs(alike(one, other), unlike is None)
        self.assertIs(alike(other, one), unlike is None)
        self.assertEqual((first_more(one, other), first_more(other, one)), more)
        self.assertEqual(unlike, first([film for film in more if film is not None]))

    def test_boxes_with_few_films(self):
        known = [(Box(strips, rules), set(all_films(strips, rules))) for strips, rules in FEW]
        for (one, films), (other, others) in itertools.product(known, repeat=2):
            self.check_pair(one, other, first(films ^ others), (first(films - others), first(others - films)))

    def test_boxes_with_endless_many_films(self):
        known = [(Box(*sample[:2]), [film for film in texts("abc", 8) if re.fullmatch(sample[2], film)]) for sample in MANY]
        for (one, films), (other, others) in itertools.product(known, repeat=2):
            # All these films part, if at all, within eight pictures.
            films, others = set(films), set(others)
            self.check_pair(one, other, first(films ^ others), (first(films - others), first(others - films)))

    def test_boxes_by_chance(self):
        seen = [0, 0]
        for strips, rules in boxes_by_chance(61, 60):
            one = Box(strips, rules)
            for other in (Box(strips, rules[1:]), Box(strips[1:], rules), one.with_strip(strips[0] * 2), Box(strips, [])):
                one_has, other_has = ([film for film in texts("abc", 4) if comes(box, film)] for box in (one, other))
                unlike = first_unlike(one, other)
                seen[unlike is None] += 1
                self.assertEqual(unlike, apart(table(one), table(other)))
                short = first(set(one_has) ^ set(other_has))
                self.assertTrue(unlike == short or short is None and len(unlike) > 4)
                self.assertIs(alike(one, other), unlike is None)
                for left, right in ((one, other), (other, one)):
                    more = first_more(left, right)
                    self.assertTrue(more is None or comes(left, more) and not comes(right, more))
                    short = first([film for film in texts("abc", 4) if comes(left, film) and not comes(right, film)])
                    self.assertTrue(more == short or short is None and len(more) > 4)
                self.assertEqual(unlike, first({first_more(one, other), first_more(other, one)} - {None}))
        self.assertGreater(min(seen), 30)

    def test_boxes_that_are_alike(self):
        for one, other in itertools.product(SAME, repeat=2):
            self.check_pair(one, other, None, (None, None))
        for strips, rules in FEW + [sample[:2] for sample in MANY]:
            box = Box(strips, rules)
            for other in (Box(strips[::-1], rules[::-1]), Box(strips * 2, rules * 2), box + box):
                self.check_pair(box, other, None, (None, None))
        for one in NONE:
            for other in NONE:
                self.check_pair(one, other, None, (None, None))

    def test_first_films_that_part(self):
        plain = Box(["abc"], [])
        self.check_pair(ROUND, plain, "abbc", ("abbc", None))
        self.check_pair(ROUND, NONE[0], "abc", ("abc", None))
        self.check_pair(ROUND, Box(["ab", "abc"], []), "ab", ("abbc", "ab"))
        self.check_pair(ROUND, Box(["zzzzz", "abc", "abbc"], []), "abbbc", ("abbbc", "zzzzz"))
        self.check_pair(Box(["b", "ac"], []), Box(["c", "ab"], []), "b", ("b", "c"))

    def test_a_late_film(self):
        strips = ["a" * size for size in range(1, 20)]
        endless = Box(["a"], [("a", "", "", "a")])
        self.check_pair(endless, Box(strips, []), "a" * 20, ("a" * 20, None))

    def test_by_name(self):
        plain = Box(["abc"], [])
        self.assertIs(alike(other=plain, one=ROUND), False)
        self.assertEqual(first_unlike(other=plain, one=ROUND), "abbc")
        self.assertEqual((first_more(other=plain, one=ROUND), first_more(one=plain, other=ROUND)), ("abbc", None))
        self.assertEqual((needless_rules(box=ROUND), needless_strips(box=ROUND)), ([], []))
        self.assertEqual(least_boxes(box=ROUND), [([0], [0])])
        self.assertEqual(brings(rule=("a", "b", "b", "c"), box=ROUND), "ac")


class Needless(Case):
    def test_boxes_with_few_films(self):
        for strips, rules in FEW:
            films = set(all_films(strips, rules))
            needless = [at for at in range(len(rules)) if set(all_films(strips, rules[:at] + rules[at + 1:])) == films]
            self.assertEqual(needless_rules(Box(strips, rules)), needless)
            needless = [at for at in range(len(strips)) if set(all_films(strips[:at] + strips[at + 1:], rules)) == films]
            self.assertEqual(needless_strips(Box(strips, rules)), needless)

    def test_boxes_by_chance_by_their_tables(self):
        seen = [0] * 4
        for strips, rules in boxes_by_chance(62, 200):
            box = Box(strips, rules)
            told = needless_rules(box)
            self.assertEqual(told, [at for at in range(len(rules)) if apart(table(box), table(box.without_rule(at))) is None])
            self.assertEqual(told, [at for at in range(len(rules)) if is_closed(box, table(box.without_rule(at)))])
            seen[0] += len(told)
            seen[1] += len(rules) - len(told)
            told = needless_strips(box)
            self.assertEqual(
                told, [at for at in range(len(strips)) if apart(table(box), table(box.without_strip(at))) is None])
            self.assertEqual(told, [at for at in range(len(strips)) if comes(box.without_strip(at), strips[at])])
            seen[2] += len(told)
            seen[3] += len(strips) - len(told)
        self.assertGreater(min(seen), 40)

    def test_things_that_stand_twice_are_needless_one_at_a_time(self):
        box = Box(["abc", "b", "abc"], [("b", "c", "a", "b"), ("c", "", "", "a"), ("b", "c", "a", "b")])
        self.assertEqual((needless_rules(box), needless_strips(box)), ([0, 2], [0, 2]))

    def test_boxes_without_films_or_rules(self):
        self.assertEqual((needless_rules(NONE[0]), needless_strips(NONE[0])), ([], []))
        self.assertEqual((needless_rules(NONE[1]), needless_strips(NONE[1])), ([0], []))
        self.assertEqual((needless_rules(Box(["a", "b"], [])), needless_strips(Box(["a", "b", "a"], []))), ([], [0, 2]))

    def test_rules_that_splice_and_bring_nothing(self):
        # By the second rule films are spliced, but only such as come about by the first one.
        self.assertEqual(needless_rules(Box(["abc"], [("b", "c", "a", "b"), ("bb", "c", "a", "b")])), [1])
        self.assertEqual(needless_rules(Box(["abc"], [("b", "c", "b", "c")])), [0])

    def test_the_told_lists_are_new(self):
        box = Box(["abc", "abbc"], [("b", "c", "a", "b"), ("bb", "c", "a", "b")])
        self.assertEqual(self.assert_new_lists(needless_rules, box), [0, 1])
        self.assertEqual(self.assert_new_lists(needless_strips, box), [1])


class LeastBoxes(Case):
    def test_boxes_with_few_films(self):
        for strips, rules in FEW:
            if len(strips) + len(rules) <= 5:
                films = set(all_films(strips, rules))
                expected = least_by_parts(strips, rules, lambda some, others: set(all_films(some, others)) == films)
                self.assertEqual(least_boxes(Box(strips, rules)), expected)

    def test_boxes_by_chance_by_all_their_parts(self):
        seen = [0, 0, 0]
        for strips, rules in boxes_by_chance(63, 150):
            rules = rules[:5 - len(strips)]
            told = table(Box(strips, rules))
            expected = least_by_parts(
                strips, rules,
                lambda some, others: apart(told, table(Box(some, others))) is None)
            self.assertEqual(least_boxes(Box(strips, rules)), expected)
            seen[min(len(expected), 3) - 1] += 1
        self.assertGreater(seen[0], 20)
        self.assertGreater(seen[1] + seen[2], 20)

    def test_the_order(self):
        box = Box(["abc", "abbc"], [("b", "c", "a", "b"), ("bb", "c", "a", "b")])
        self.assertEqual(least_boxes(box), [([0], [0]), ([0, 1], [1])])
        box = Box(["ab", "abb", "ab"], [("b", "", "", "b"), ("b", "", "a", "b")])
        self.assertEqual(least_boxes(box), [([0], [0]), ([0], [1]), ([2], [0]), ([2], [1])])
        # One strip more, or one rule less and two strips more.
        box = Box(["a", "aa", "ab", "aab"], [("a", "", "", "a")])
        self.assertEqual(least_boxes(box), [([0, 2], [0])])

    def test_boxes_without_films_or_rules(self):
        self.assertEqual([least_boxes(box) for box in NONE], [[([], [])]] * 2)
        self.assertEqual(least_boxes(Box(["a", "b", "a"], [])), [([0, 1], []), ([1, 2], [])])
        self.assertEqual(least_boxes(Box(["a"], [("b", "", "", "b")])), [([0], [])])
        self.assertEqual(least_boxes(Box(["ab", "cd", "ad"], [("a", "b", "c", "d")])), [([0, 1], [0]), ([0, 1, 2], [])])

    def test_the_told_lists_are_new(self):
        box = Box(["ab", "abb", "ab"], [("b", "", "", "b"), ("b", "", "a", "b")])
        self.assertEqual(len(self.assert_new_lists(least_boxes, box)), 4)


class Brings(Case):
    def test_boxes_with_few_films(self):
        for strips, rules in FEW:
            for at, rule in enumerate(rules):
                lesser = rules[:at] + rules[at + 1:]
                more = set(all_films(strips, rules)) - set(all_films(strips, lesser))
                self.assertEqual(brings(Box(strips, lesser), rule), first(more))

    def test_boxes_with_endless_many_films(self):
        for strips, rules, pattern, _ in MANY:
            films = [film for film in texts("abc", 8) if re.fullmatch(pattern, film)]
            for at, rule in enumerate(rules):
                lesser = Box(strips, rules[:at] + rules[at + 1:])
                self.assertEqual(brings(lesser, rule), first([film for film in films if not comes(lesser, film)]))

    def test_boxes_by_chance(self):
        seen = [0, 0]
        for strips, rules in boxes_by_chance(64, 200):
            box = Box(strips, rules[1:])
            for rule in rules[:1] + [("a", "", "", "b"), ("b", "a", "", "ab")]:
                told, wider = brings(box, rule), box.with_rule(rule)
                short = [film for film in texts("abc", 4) if comes(wider, film) and not comes(box, film)]
                if short:
                    self.assertEqual(told, short[0])
                elif told is not None:
                    self.assertGreater(len(told), 4)
                    self.assertIs(comes(wider, told), True)
                    self.assertIs(comes(box, told), False)
                else:
                    self.assertIs(is_closed(wider, table(box)), True)
                seen[told is None] += 1
        self.assertGreater(min(seen), 100)

    def test_rules_of_the_box_bring_nothing(self):
        for strips, rules in FEW + [sample[:2] for sample in MANY]:
            self.assertEqual([brings(Box(strips, rules), rule) for rule in rules], [None] * len(rules))

    def test_rules_beside_the_box_bring_nothing(self):
        for rule in [("z", "", "", "z"), ("b", "", "", "z"), ("z", "", "", "b"), ("c", "a", "", "b"), ("a", "", "c", "a")]:
            self.assertIsNone(brings(ROUND, rule))
        for box in NONE:
            self.assertEqual([brings(box, rule) for rule in (("a", "", "", "a"), ("z", "z", "z", "z"))], [None, None])

    def test_a_rule_more_than_a_box_may_have(self):
        box = Box(["abcde", "edcba", "aabbc", "ccdde"], [("ab", "c", "b", "cd"), ("d", "e", "", "a"), ("b", "", "c", "d")])
        told, wider = brings(box, ("e", "", "", "e")), box.with_rule(("e", "", "", "e"))
        self.assertEqual((comes(box, told), comes(wider, told)), (False, True))
        short = [film for film in texts("abcde", 4) if comes(wider, film) and not comes(box, film)]
        self.assertTrue(told == short[0] if short else len(told) > 4)
        self.assertIsNone(brings(box, ("ab", "c", "b", "cd")))

    def test_rules_that_are_none(self):
        for box in [ROUND] + NONE:
            for error, value, rule in WRONG_RULES:
                self.assert_error(error, value, brings, box, rule)
            for text in WRONG_TEXTS:
                for at in range(4):
                    rule = ("a",) * at + (text,) + ("b",) * (3 - at)
                    self.assert_error(InvalidPiece, text, brings, box, rule)
            self.assert_error(InvalidRule, ("", "", "", "a"), brings, box, ("", "", "", "a"))
            self.assert_error(InvalidRule, ("a", "", "", ""), brings, box, ("a", "", "", ""))


class Asking(Case):
    def test_the_same_again_behind_other_questions(self):
        strips, rules = ["abc", "abbc"], [("b", "c", "a", "b"), ("bb", "c", "a", "b")]
        box, plain = Box(strips, rules), Box(strips, [])
        expected = [False, "abbbc", None, [0, 1], [1], [([0], [0]), ([0, 1], [1])], "ac", None]
        for _ in range(3):
            self.assertEqual(
                [alike(box, plain), first_unlike(box, plain), first_more(plain, box), needless_rules(box),
                 needless_strips(box), least_boxes(box), brings(box, ("a", "b", "b", "c")), brings(box, rules[0])],
                expected)
            self.assert_error(InvalidRule, (), brings, box, ())
            self.assertEqual((box, box.strips, box.rules), (Box(strips, rules), strips, rules))

    def test_boxes_that_were_made_of_an_asked_one(self):
        box = Box(["abc", "abbc"], [("b", "c", "a", "b"), ("bb", "c", "a", "b")])
        for _ in range(2):
            least_boxes(box)
            self.assertIs(alike(box, box.without_rule(0)), True)
            self.assertIs(alike(box, box.without_rule(0).without_rule(0)), False)
            self.assertEqual(first_unlike(box, box.with_strip("a")), "a")
            self.assertEqual(least_boxes(box.without_strip(1)), [([0], [0])])
            self.assertEqual(needless_rules(box.without_strip(1)), [1])
            self.assertEqual(needless_strips(box + box), [0, 1, 2, 3])
            self.assertEqual(brings(box.without_rule(0).without_rule(0), ("b", "c", "a", "b")), "abbbc")


if __name__ == "__main__":
    unittest.main()

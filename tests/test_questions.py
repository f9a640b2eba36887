"""Questions about all films of a box: splicedfilms/questions.py, and points [2], [4], [6] and [9]."""

import random
import re
import unittest

from cases import Case, WRONG_TEXTS
from naive import all_films, boxes_by_chance, fewest_by_rounds, in_order, pieces_of, texts
from samples import FEW, MANY
from splicedfilms.boxes import Box
from splicedfilms.errors import InvalidFilm, InvalidNumber, InvalidPiece
from splicedfilms.films import comes
from splicedfilms.questions import (
    all_have, barred, beginnings, beside, endings, exchanged, film_at, how_many, is_endless, longest, number,
    number_rest, pieces, rank, shortest, some_have)

ROUND = Box(["abc"], [("b", "c", "a", "b")])
NONE = [Box([], []), Box([], [("a", "", "c", "b")])]
# No two b stand side by side, all other texts come about.
LONELY = Box(["b", "a"], [("a", "", "", "a"), ("a", "", "", "b"), ("b", "", "", "a")])
PAIRS = Box(["ab"], [("b", "", "", "a")])


def first(films):
    return next(iter(films), None)


def swaps(film, piece, other):
    """Return all texts with another piece once in the place of a piece."""
    places = [at for at in range(len(film) + 1) if film[at:].startswith(piece)]
    return [film[:at] + other + film[at + len(piece):] for at in places]


def barred_by(films, pictures, length):
    """Return the barred pieces of some films."""
    standing = {piece for film in films for piece in pieces_of(film)}
    return [
        text for text in texts(pictures, length)
        if text not in standing and pieces_of(text) - {text} <= standing
    ]


def lonely_many(length, modulus):
    """Return the rest of the number of the films of `LONELY` of a length, by doubling Fibonacci's numbers."""
    low, high = 0, 1
    for bit in bin(length + 2)[2:]:
        low, high = low * (2 * high - low) % modulus, (low * low + high * high) % modulus
        if bit == "1":
            low, high = high, (low + high) % modulus
    return low % modulus


class ListedFilms(Case):
    """Boxes whose films a test can list: all of them, or all that are short."""

    def check_counts(self, box, films, most):
        chance = random.Random(1)
        for length in range(most + 1):
            many = len([film for film in films if len(film) == length])
            self.assertEqual(number(box, length), many)
            for modulus in (1, 2, 3, chance.randint(1, 10 ** 9)):
                self.assertEqual(number_rest(box, length, modulus), many % modulus)
        self.assertEqual(shortest(box), [film for film in films if len(film) == len(films[0])])
        for index, film in enumerate(films):
            self.assertEqual((rank(box, film), film_at(box, index)), (index, film))

    def check_pieces(self, box, films, length):
        pictures = box.pictures()
        for size in range(length + 1):
            standing = {film[at:at + size] for film in films for at in range(len(film) - size + 1)}
            self.assertEqual(pieces(box, size), sorted(standing))
            long = [film for film in films if len(film) >= size]
            self.assertEqual(beginnings(box, size), sorted({film[:size] for film in long}))
            self.assertEqual(endings(box, size), sorted({film[len(film) - size:] for film in long}))
            self.assertEqual(barred(box, size), barred_by(films, pictures, size) if films else [])
        standing = {film[at:at + 2] for film in films for at in range(len(film) - 1)}
        self.assertEqual(beside(box), [one + two for one in pictures for two in pictures if one + two not in standing])

    def check_having(self, box, films, asked):
        for piece in asked:
            self.assertEqual(some_have(box, piece), first(film for film in films if piece in film), piece)
            self.assertEqual(all_have(box, piece), first(film for film in films if piece not in film), piece)

    def check_exchanges(self, box, films, asked, has):
        for piece in asked:
            for other in asked:
                bad = (film for film in films if not all(has(text) for text in swaps(film, piece, other)))
                self.assertEqual(exchanged(box, piece, other), first(bad), (box.strips, box.rules, piece, other))

    def test_boxes_with_few_films(self):
        for strips, rules in FEW:
            box = Box(strips, rules)
            films = in_order(all_films(strips, rules))
            self.assertIs(is_endless(box), False)
            self.assertEqual(how_many(box), len(films))
            self.assertEqual(longest(box), [film for film in films if len(film) == len(films[-1])])
            if films:
                self.check_counts(box, films, len(films[-1]) + 3)
            self.assertEqual([film_at(box, len(films) + more) for more in (0, 1, 7)], [None] * 3)
            self.check_pieces(box, films, 3)
            asked = sorted({piece for film in films for piece in pieces_of(film)} | {"", "a", "z", "ba", "dd"})
            self.check_having(box, films, asked)
            few = asked[:1] + random.Random(2).sample(asked, min(len(asked), 12)) + ["z"]
            self.check_exchanges(box, films, few, lambda text: text in films)

    def test_boxes_with_endless_many_films(self):
        for strips, rules, pattern, _ in MANY:
            box = Box(strips, rules)

            def has(text):
                return re.fullmatch(pattern, text) is not None

            films = in_order(film for film in texts(box.pictures(), 9) if has(film))
            self.assertIs(is_endless(box), True)
            self.assertIsNone(how_many(box))
            self.assertIsNone(longest(box))
            self.check_counts(box, films, 9)
            self.check_pieces(box, films, 3)
            asked = [""] + texts("abc", 2) + ["aba", "bbb", "abab", "ccca"]
            self.check_having(box, films, asked)
            self.check_exchanges(box, films, asked[:13], has)

    def test_boxes_by_chance(self):
        seen = [0, 0]
        for strips, rules in boxes_by_chance(51, 120):
            box = Box(strips, rules)
            films = in_order(film for film in texts(box.pictures(), 5) if comes(box, film))
            more = fewest_by_rounds(strips, rules, 2, 60)[0]
            self.check_counts(box, films, 5)
            for film in more:
                self.assertEqual(film_at(box, rank(box, film)), film)
            if how_many(box) is not None:
                listed = [film_at(box, index) for index in range(how_many(box))]
                self.assertEqual(listed, in_order(set(listed) | set(more)))
                self.assertTrue(all(comes(box, film) for film in listed))
                self.check_pieces(box, listed, 3)
            for piece in [""] + texts(box.pictures(), 2) + ["abc", "bbb"]:
                some, lacking = some_have(box, piece), all_have(box, piece)
                self.check_first(box, some, [film for film in films if piece in film], lambda film: piece in film)
                self.check_first(box, lacking, [film for film in films if piece not in film], lambda film: piece not in film)
                self.assertEqual(piece in pieces(box, len(piece)), some is not None)
                self.assertFalse(some is None and any(piece in film for film in more))
                self.assertFalse(lacking is None and any(piece not in film for film in more))
                for other in ("", "a", "ba"):
                    def is_bad(film):
                        return not all(text != "" and comes(box, text) for text in swaps(film, piece, other))
                    self.check_first(box, exchanged(box, piece, other), [film for film in films if is_bad(film)], is_bad)
            seen[is_endless(box)] += 1
        self.assertGreater(min(seen), 20)

    def check_first(self, box, told, short, is_one):
        # The short films are all those of at most five pictures.
        if short:
            self.assertEqual(told, short[0])
        elif told is not None:
            self.assertGreater(len(told), 5)
            self.assertTrue(comes(box, told) and is_one(told))

    def test_barred_pieces_and_texts_that_stand(self):
        for strips, rules in boxes_by_chance(52, 80):
            box = Box(strips, rules)
            bars = barred(box, 4)
            self.assertEqual(bars, in_order(bars))
            for text in [""] + texts(box.pictures(), 4):
                stands = not any(bar in text for bar in bars)
                self.assertEqual(some_have(box, text) is not None, stands)
                self.assertEqual(text in pieces(box, len(text)), stands)


class Counting(Case):
    def test_great_lengths(self):
        self.assertEqual([number(ROUND, length) for length in (0, 1, 2, 3, 59, 60, 61)], [0, 0, 0, 1, 1, 1, 1])
        self.assertEqual([number(PAIRS, length) for length in (0, 1, 2, 59, 60)], [0, 0, 1, 0, 1])
        for length in range(1, 61):
            self.assertEqual(number(LONELY, length), lonely_many(length, 10 ** 30))
        self.assertEqual(number(Box(["a"], []), 60), 0)

    def test_rests_of_great_lengths(self):
        for length in (1, 2, 60, 61, 10 ** 9, 10 ** 18 + 7, 10 ** 30 - 1, 10 ** 30, 10 ** 30 + 1):
            for modulus in (1, 2, 3, 7, 1000, 2 ** 29, 10 ** 9 - 1, 10 ** 9):
                self.assertEqual(number_rest(LONELY, length, modulus), lonely_many(length, modulus))
                self.assertEqual(number_rest(PAIRS, length, modulus), (length + 1) % 2 % modulus)
                self.assertEqual(number_rest(Box(["a", "ab"], []), length, modulus), (length < 3) % modulus)
        self.assertEqual([number_rest(LONELY, 0, modulus) for modulus in (1, 2, 9)], [0, 0, 0])
        self.assertEqual(number_rest(ROUND, 10 ** 30, 1), 0)

    def test_a_table_of_twenty_states(self):
        box = Box(["cabbc", "accba", "cbb", "bbacb"], [("ca", "", "ca", "ba"), ("cb", "", "a", "c"), ("b", "b", "", "c")])
        # By a length that is short enough to count, and by one that is not.
        self.assertEqual(number_rest(box, 60, 10 ** 9), number(box, 60) % 10 ** 9)
        self.assertEqual(number_rest(box, 200, 997), number(box, 200) % 997)
        rests = [number_rest(box, 10 ** 30, modulus) for modulus in (10 ** 9, 10 ** 8, 10, 1)]
        self.assertEqual(rests, [rests[0], rests[0] % 10 ** 8, rests[0] % 10, 0])

    def test_ranks_of_long_films(self):
        for index in (0, 1, 2, 3, 10 ** 3, 10 ** 12, 10 ** 12 - 1):
            film = film_at(LONELY, index)
            self.assertNotIn("bb", film)
            self.assertEqual(rank(LONELY, film), index)
        ahead = sum(lonely_many(length, 10 ** 30) for length in range(1, 60))
        self.assertEqual((film_at(LONELY, ahead), rank(LONELY, "a" * 60)), ("a" * 60, ahead))
        self.assertEqual((film_at(LONELY, ahead - 1), rank(LONELY, "ba" * 29 + "b")), ("ba" * 29 + "b", ahead - 1))
        self.assertEqual(film_at(LONELY, ahead + 1), "a" * 59 + "b")
        self.assertEqual((film_at(ROUND, 57), rank(ROUND, "a" + "b" * 58 + "c")), ("a" + "b" * 58 + "c", 57))

    def test_ranks_at_the_end(self):
        box = Box(["ab", "cd"], [("a", "b", "c", "d")])
        self.assertEqual([film_at(box, index) for index in (0, 1, 2, 3, 4, 10 ** 30)], ["ab", "ad", "cd"] + [None] * 3)
        self.assertEqual([rank(box, film) for film in ("ab", "ad", "cd", "a", "ac", "cb", "da", "abcd", "z")],
                         [0, 1, 2] + [None] * 6)
        self.assertEqual(film_at(Box(["b", "a", "aa", "b"], []), 2), "aa")
        self.assertIsNone(film_at(Box(["b", "a", "aa", "b"], []), 3))

    def test_shortest_and_longest(self):
        box = Box(["ba", "ab", "bba", "bb", "aab", "ba"], [])
        self.assertEqual((shortest(box), longest(box), how_many(box)), (["ab", "ba", "bb"], ["aab", "bba"], 5))
        self.assertEqual((shortest(LONELY), longest(LONELY)), (["a", "b"], None))
        # A way round from which no film ends, and one to which none leads, make no films.
        box = Box(["ab"], [("b", "", "c", "a"), ("a", "b", "c", "c")])
        self.assertEqual((is_endless(box), how_many(box), longest(box)), (False, 1, ["ab"]))


class Boxes(Case):
    def test_boxes_without_films(self):
        for box in NONE:
            self.assertEqual([number(box, length) for length in (0, 1, 60)], [0, 0, 0])
            self.assertEqual([number_rest(box, length, 5) for length in (0, 1, 10 ** 30)], [0, 0, 0])
            self.assertEqual([is_endless(box), how_many(box), shortest(box), longest(box)], [False, 0, [], []])
            for piece in ("", "a", "ab"):
                self.assertEqual((some_have(box, piece), all_have(box, piece)), (None, None))
                self.assertEqual([exchanged(box, piece, other) for other in ("", "a", "b")], [None] * 3)
            for length in range(4):
                self.assertEqual([pieces(box, length), beginnings(box, length), endings(box, length)], [[]] * 3)
                self.assertEqual(barred(box, length), [])
            self.assertEqual([rank(box, "a"), film_at(box, 0), film_at(box, 9)], [None] * 3)
        self.assertEqual(beside(NONE[0]), [])
        self.assertEqual(beside(NONE[1]), ["aa", "ab", "ac", "ba", "bb", "bc", "ca", "cb", "cc"])

    def test_lengths_of_0(self):
        for box in (ROUND, LONELY, Box(["a"], [])):
            self.assertEqual([number(box, 0), number_rest(box, 0, 7), barred(box, 0)], [0, 0, []])
            self.assertEqual([pieces(box, 0), beginnings(box, 0), endings(box, 0)], [[""]] * 3)

    def test_lengths_beyond_all_films(self):
        box = Box(["ab", "c"], [])
        for length in (3, 4):
            self.assertEqual([pieces(box, length), beginnings(box, length), endings(box, length)], [[]] * 3)
        self.assertEqual(barred(box, 4), ["aa", "ac", "ba", "bb", "bc", "ca", "cb", "cc"])
        self.assertEqual(barred(Box(["aaa"], []), 4), ["aaaa"])
        self.assertEqual(barred(Box(["aaa"], []), 3), [])

    def test_pictures_that_stand_in_rules_alone(self):
        box = Box(["ab"], [("a", "c", "d", "b")])
        self.assertEqual(barred(box, 1), ["c", "d"])
        self.assertEqual(barred(box, 2), ["c", "d", "aa", "ba", "bb"])
        self.assertEqual([one + two for one in "abcd" for two in "abcd" if one + two != "ab"], beside(box))
        self.assertEqual((some_have(box, "c"), all_have(box, "c"), rank(box, "c")), (None, "ab", None))

    def test_the_empty_piece(self):
        for box in (ROUND, LONELY, PAIRS):
            self.assertEqual((some_have(box, ""), all_have(box, "")), (film_at(box, 0), None))
            self.assertIsNone(exchanged(box, "", ""))
        self.assertEqual(exchanged(ROUND, "", "b"), "abc")
        self.assertEqual(exchanged(LONELY, "", "b"), "b")
        self.assertEqual(exchanged(LONELY, "", "a"), None)
        self.assertEqual(exchanged(LONELY, "a", ""), "a")
        self.assertEqual(exchanged(Box(["a"], [("a", "", "", "a")]), "aa", ""), "aa")

    def test_exchanges(self):
        # The piece may stand more than once in the film, and one place is enough; the other one may be unlike the box.
        self.assertEqual(exchanged(LONELY, "a", "b"), "ab")
        self.assertEqual(exchanged(LONELY, "b", "a"), None)
        self.assertEqual(exchanged(LONELY, "ab", "ba"), "bab")
        self.assertEqual(exchanged(LONELY, "aba", "abba"), "aba")
        self.assertEqual(exchanged(ROUND, "b", "z"), "abc")
        self.assertEqual(exchanged(ROUND, "z", "b"), None)
        self.assertEqual(exchanged(ROUND, "bb", "b"), None)
        self.assertEqual(exchanged(Box(["ab", "cb", "db"], []), "b", "b"), None)
        self.assertEqual(exchanged(Box(["ab", "cb", "ac", "dd"], []), "b", "c"), "cb")
        self.assertEqual(exchanged(ROUND, "b" * 24, "b" * 23), None)
        self.assertEqual(exchanged(ROUND, "b" * 24, "b" * 23 + "c"), "a" + "b" * 24 + "c")
        # By the second b of the first film, by the first one of the second film.
        self.assertEqual(exchanged(Box(["abab", "acab", "baba"], []), "b", "c"), "abab")
        self.assertEqual(exchanged(Box(["abab", "acab", "abac", "acac", "baba"], []), "b", "c"), "baba")

    def test_the_first_exchange_of_several_that_read_the_same(self):
        for strips, rules, piece, other, film in [
            (["bb", "b", "a"], [("b", "b", "", "b"), ("bb", "", "", "a")], "bbb", "a", "bbba"),
            (["b", "bbaa"], [("a", "", "", "b")], "aba", "", "bbabaa"),
            (["cdcd", "cadcb", "bc"], [("c", "d", "ca", "d"), ("b", "c", "", "d")], "cd", "", "cdcb"),
            (["abaaa", "bbb", "baa"], [("a", "a", "b", "bb")], "aba", "", "abaaa"),
        ]:
            box = Box(strips, rules)
            films = [text for text in texts(box.pictures(), 6) if comes(box, text)]
            bad = (text for text in films if not all(swap in films for swap in swaps(text, piece, other) if len(swap) < 7))
            self.assertEqual((first(bad), exchanged(box, piece, other)), (film, film))

    def test_long_pieces(self):
        piece = "ab" * 12
        self.assertEqual(some_have(PAIRS, piece), piece)
        self.assertEqual(some_have(PAIRS, "ba" * 12), "ab" * 13)
        self.assertEqual(all_have(PAIRS, piece), "ab")
        self.assertEqual(some_have(PAIRS, piece[:-1] + "a"), None)
        self.assertEqual(some_have(LONELY, "a" * 24), "a" * 24)
        self.assertEqual(all_have(LONELY, "a"), "b")
        self.assertEqual(some_have(LONELY, "aab" * 8), "aab" * 8)
        self.assertEqual(some_have(Box(["ababb"], [("ab", "", "", "ab")]), "ababababb"), "ababababb")


class Errors(Case):
    def test_numbers_that_are_too_small(self):
        for box in [ROUND] + NONE:
            for low in (-1, -2, -10 ** 30):
                for call in (number, pieces, beginnings, endings, barred):
                    self.assert_error(InvalidNumber, low, call, box, low)
                    self.assert_error(InvalidNumber, low, call, box=box, length=low)
                self.assert_error(InvalidNumber, low, film_at, box, low)
                self.assert_error(InvalidNumber, low, number_rest, box, low, 7)
                self.assert_error(InvalidNumber, low, number_rest, box, low, 0)
                self.assert_error(InvalidNumber, low, number_rest, box, low, -9)
                self.assert_error(InvalidNumber, low, number_rest, box, 3, low)
            self.assert_error(InvalidNumber, 0, number_rest, box, 0, 0)
            self.assert_error(InvalidNumber, 0, number_rest, box, 10 ** 30, 0)

    def test_texts_that_are_no_pieces_or_films(self):
        for box in [ROUND] + NONE:
            for text in WRONG_TEXTS:
                self.assert_error(InvalidPiece, text, some_have, box, text)
                self.assert_error(InvalidPiece, text, all_have, box, text)
                self.assert_error(InvalidPiece, text, exchanged, box, text, "a")
                self.assert_error(InvalidPiece, text, exchanged, box, "", text)
                self.assert_error(InvalidPiece, text, exchanged, box, text, "Zz")
                self.assert_error(InvalidFilm, text, rank, box, text)
            self.assert_error(InvalidFilm, "", rank, box, "")


# Questions, and the words behind the box by which they are asked.
ASKED = [
    (number, {"length": 7}), (number_rest, {"length": 10 ** 30, "modulus": 7}), (is_endless, {}), (how_many, {}),
    (shortest, {}), (longest, {}), (some_have, {"piece": "bb"}), (all_have, {"piece": "ab"}), (pieces, {"length": 2}),
    (beginnings, {"length": 2}), (endings, {"length": 3}), (beside, {}), (barred, {"length": 3}),
    (exchanged, {"piece": "b", "other": ""}), (rank, {"film": "abbc"}), (film_at, {"index": 2}),
]


class Asking(Case):
    def test_by_position_and_by_name_of_a_box_that_was_asked(self):
        for strips, rules in [(["abc"], [("b", "c", "a", "b")]), (["ab", "cd"], [("a", "b", "c", "d")])] + FEW[:3]:
            box = Box(strips, rules)
            for _ in range(2):
                for call, told in ASKED:
                    expected = call(Box(strips, rules), *told.values())
                    self.assertEqual(call(**told, box=box), expected)
                    self.assertEqual(call(box, *told.values()), expected)
            self.assertEqual((box, box.strips, box.rules), (Box(strips, rules), strips, rules))

    def test_boxes_that_are_made_of_an_asked_one(self):
        strips, rules = ["abc", "abbc"], [("b", "c", "a", "b"), ("c", "", "", "a")]
        box = Box(strips, rules)
        for call, told in ASKED:
            call(box, **told)
        for made, fresh in [
            (box.without_rule(0), Box(strips, rules[1:])), (box.without_rule(1), Box(strips, rules[:1])),
            (box.without_strip(0), Box(strips[1:], rules)), (box.with_strip("cab"), Box(strips + ["cab"], rules)),
            (box.with_rule(("a", "", "", "c")), Box(strips, rules + [("a", "", "", "c")])),
            (box + Box(["d"], []), Box(strips + ["d"], rules)), (Box(box.strips, box.rules), box),
        ]:
            for call, told in ASKED:
                self.assertEqual(call(made, **told), call(fresh, **told))

    def test_the_told_lists_are_new(self):
        for box in (ROUND, LONELY, Box(["ab", "cd"], [("a", "b", "c", "d")]), Box(["a"], []), NONE[1]):
            for call, told in ASKED:
                self.assert_new_lists(call, box, *told.values())


if __name__ == "__main__":
    unittest.main()

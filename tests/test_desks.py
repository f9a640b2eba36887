"""Cutting desks: splicedfilms/desks.py, and points [2], [3], [5], [7] and [9]."""

import itertools
import random
import unittest

from cases import Case, WRONG_TEXTS
from naive import all_splices, boxes_by_chance, film_told, sites, texts
from samples import FEW
from splicedfilms.boxes import Box
from splicedfilms.compare import alike
from splicedfilms.desks import Desk
from splicedfilms.errors import InvalidFilm, NoSplice, NothingToUndo, UnknownRule, UnknownStrip
from splicedfilms.films import comes, film_of, judge_tree, splices
from splicedfilms.films import tree as tree_by

RULE = ("b", "c", "a", "b")
ROUND = Box(["abc"], [RULE])
FIRST = ("strip", 0)
ONE = ("splice", 0, 2, 1, FIRST, FIRST)


class Model:
    """A desk done slowly: all calls are made anew whenever one is taken back."""

    def __init__(self, strips, rules):
        self.strips, self.rules, self.calls = strips, rules, []
        self.set_up()

    def set_up(self):
        self.films, self.trees = [], []
        for index, strip in enumerate(self.strips):
            self.lay(strip, ("strip", index))

    def lay(self, film, told):
        if film not in self.films:
            self.films.append(film)
            self.trees.append(told)
        return self.films.index(film)

    def splice(self, index, film, cut, other, place):
        told = ("splice", index, cut, place, self.trees[film], self.trees[other])
        return self.lay(self.films[film][:cut] + self.films[other][place:], told)

    def lead(self, told):
        if told[0] == "strip":
            return told[1]
        film = self.lead(told[4])
        return self.splice(told[1], film, told[2], self.lead(told[5]), told[3])

    def do(self, call):
        self.calls.append(call)
        return self.lead(call[0]) if len(call) == 1 else self.splice(*call)

    def undo(self):
        calls, self.calls = self.calls[:-1], []
        self.set_up()
        for call in calls:
            self.do(call)

    def can(self):
        numbers = range(len(self.films))
        return [
            (index, film, cut, other, place)
            for index, (front, behind, ahead, back) in enumerate(self.rules)
            for film in numbers for cut in sites(front, behind, self.films[film])
            for other in numbers for place in sites(ahead, back, self.films[other])
            if self.films[film][:cut] + self.films[other][place:] not in self.films
        ]


def tree_by_chance(chance, films, rules, most):
    """Return some tree of at most about so many splices over films, as far as the rules let it."""
    number = chance.randrange(len(films))
    told, film = ("strip", number), films[number]
    for _ in range(chance.randint(0, most)):
        other_number = chance.randrange(len(films))
        other_told, other = ("strip", other_number), films[other_number]
        if chance.random() < 0.4:
            other_told, other = told, film
        index = chance.randrange(len(rules))
        front, behind, ahead, back = rules[index]
        seats = list(itertools.product(sites(front, behind, film), sites(ahead, back, other)))
        if seats:
            cut, place = chance.choice(seats)
            if len(film[:cut] + other[place:]) <= 20:
                told, film = ("splice", index, cut, place, told, other_told), film[:cut] + other[place:]
    return told


class Led(Case):
    """Desks that are led by chance, beside a slow model."""

    def check(self, desk, model, box):
        self.assertEqual((desk.films(), len(desk)), (model.films, len(model.films)))
        self.assertEqual([desk.tree_of(number) for number in range(len(desk))], model.trees)
        self.assertEqual(desk.now(), Box(model.films, model.rules))
        for film, told in zip(model.films, model.trees):
            self.assertIs(desk.lies(film), True)
            self.assertEqual(film_told(model.strips, model.rules, told), film)
        for film in texts("abc", 2):
            self.assertIs(desk.lies(film), film in model.films)
        self.assertEqual(box, Box(model.strips, model.rules))

    def step(self, chance, desk, model):
        what = chance.random()
        can = desk.can() if len(desk) <= 12 else []
        if can and what < 0.5:
            call = chance.choice(can)
            self.assertEqual(desk(*call), len(desk) - 1)
            self.assertEqual(model.do(call), len(model.films) - 1)
        elif what < 0.7:
            call = self.call_by_chance(chance, model)
            if call is not None:
                self.assertEqual(desk(*call), model.do(call))
        elif model.rules and model.films and what < 0.85:
            told = tree_by_chance(chance, model.films, model.rules, 4)
            self.assertEqual(desk.follow(told), model.do((told,)))
        elif model.calls:
            self.assertIsNone(desk.undo())
            model.undo()
        else:
            self.assert_error(NothingToUndo, 0, desk.undo)

    def call_by_chance(self, chance, model):
        if not model.films or not model.rules:
            return None
        index, film, other = chance.randrange(len(model.rules)), *chance.choices(range(len(model.films)), k=2)
        front, behind, ahead, back = model.rules[index]
        seats = list(itertools.product(sites(front, behind, model.films[film]), sites(ahead, back, model.films[other])))
        if not seats:
            return None
        cut, place = chance.choice(seats)
        return (index, film, cut, other, place)

    def test_desks_by_chance(self):
        chance = random.Random(11)
        calls = 0
        for strips, rules in boxes_by_chance(101, 40) + FEW:
            box = Box(strips, rules)
            desk, model = Desk(box), Model(strips, rules)
            for _ in range(25):
                self.step(chance, desk, model)
                self.check(desk, model, box)
            calls += len(model.calls)
            while model.calls:
                desk.undo()
                model.undo()
                self.check(desk, model, box)
            self.assertEqual(desk, Desk(box))
        self.assertGreater(calls, 300)

    def test_can_by_all_calls_tried(self):
        chance = random.Random(12)
        for strips, rules in boxes_by_chance(102, 15) + FEW[3:8]:
            desk, model = Desk(Box(strips, rules)), Model(strips, rules)
            for _ in range(3):
                self.step(chance, desk, model)
            self.assertEqual(desk.can(), model.can())
            found = []
            longest = max(map(len, desk.films()), default=0) + 2
            if len(desk) <= 5 and longest <= 9:
                numbers, seats = range(-1, len(desk) + 1), range(-1, longest)
                for call in itertools.product(range(-1, len(rules) + 1), numbers, seats, numbers, seats):
                    films = desk.films()
                    try:
                        number = desk(*call)
                    except (UnknownRule, UnknownStrip, NoSplice):
                        self.assertEqual(desk.films(), films)
                    else:
                        if number == len(films):
                            found.append(call)
                        desk.undo()
                        self.assertEqual(desk.films(), films)
                self.assertEqual(desk.can(), found)

    def test_two_desks_by_turns(self):
        chance = random.Random(13)
        for strips, rules in boxes_by_chance(103, 15):
            box = Box(strips, rules)
            pairs = [(Desk(box), Model(strips, rules)), (Desk(box), Model(strips, rules))]
            for _ in range(20):
                self.step(chance, *chance.choice(pairs))
                for desk, model in pairs:
                    self.check(desk, model, box)
                self.assertIs(pairs[0][0] == pairs[1][0], pairs[0][1].films == pairs[1][1].films)

    def test_the_same_films_come_about_by_the_desk(self):
        chance = random.Random(14)
        for strips, rules in boxes_by_chance(104, 25):
            box = Box(strips, rules)
            desk, model = Desk(box), Model(strips, rules)
            for _ in range(8):
                self.step(chance, desk, model)
                self.assertIs(alike(box, desk.now()), True)
            for film in desk.films():
                self.assertIs(comes(box, film), True)
            for number in range(len(desk)):
                self.assertIs(judge_tree(box, desk.films()[number], desk.tree_of(number)), True)


class Calls(Case):
    def test_single_splices(self):
        box = Box(["aab", "abcd", "b"], [("a", "b", "b", "c"), ("d", "", "", "b")])
        desk = Desk(box)
        self.assertEqual([desk(0, 0, 2, 1, 2), desk(1, 1, 4, 2, 0), desk(1, 3, 4, 2, 0)], [3, 4, 5])
        self.assertEqual(desk.films(), ["aab", "abcd", "b", "aacd", "abcdb", "aacdb"])
        self.assertEqual(desk.tree_of(5), ("splice", 1, 4, 0, ("splice", 0, 2, 2, FIRST, ("strip", 1)), ("strip", 2)))
        self.assertEqual([film_of(box, desk.tree_of(number)) for number in range(6)], desk.films())

    def test_by_name(self):
        desk = Desk(box=ROUND)
        self.assertEqual(desk(place=1, other=0, cut=2, film=0, index=0), 1)
        self.assertEqual(desk.tree_of(film=1), ONE)
        self.assertIs(desk.lies(film="abbc"), True)
        self.assertEqual(desk.follow(told=("splice", 0, 3, 1, ("strip", 1), FIRST)), 2)

    def test_films_that_lie_there_already(self):
        desk = Desk(Box(["abc", "abbc"], [RULE, ("ab", "", "", "bc")]))
        self.assertEqual([desk(0, 0, 2, 0, 1), desk(1, 0, 2, 0, 1), desk(0, 0, 2, 1, 1), desk(0, 1, 3, 0, 1)], [1, 1, 2, 2])
        self.assertEqual((len(desk), desk.tree_of(1)), (3, ("strip", 1)))
        self.assertEqual(desk.tree_of(2), ("splice", 0, 2, 1, FIRST, ("strip", 1)))
        sizes = []
        for _ in range(4):
            self.assertIsNone(desk.undo())
            sizes.append(len(desk))
        self.assertEqual(sizes, [3, 2, 2, 2])
        self.assert_error(NothingToUndo, 0, desk.undo)

    def test_strips_that_stand_twice(self):
        box = Box(["b", "abc", "b", "abc", "d"], [RULE])
        desk = Desk(box)
        self.assertEqual((desk.films(), len(desk)), (["b", "abc", "d"], 3))
        self.assertEqual([desk.tree_of(number) for number in range(3)], [("strip", 0), ("strip", 1), ("strip", 4)])
        self.assertEqual(desk(0, 1, 2, 1, 1), 3)
        self.assertEqual(desk.tree_of(3), ("splice", 0, 2, 1, ("strip", 1), ("strip", 1)))
        self.assertEqual(desk.now().strips, ["b", "abc", "d", "abbc"])
        # A tree of now() has the numbers of the films, not the indexes of the strips.
        self.assertEqual((desk.follow(("strip", 2)), desk.tree_of(2)), (2, ("strip", 4)))
        self.assert_error(UnknownStrip, 4, desk.follow, ("strip", 4))

    def test_the_first_tree_stays(self):
        desk = Desk(ROUND)
        desk(0, 0, 2, 0, 1)
        desk(0, 0, 2, 1, 1)
        self.assertEqual(desk(0, 1, 3, 0, 1), 2)
        self.assertEqual(desk.tree_of(2), ("splice", 0, 2, 1, FIRST, ONE))
        desk.undo()
        desk.undo()
        desk(0, 1, 3, 0, 1)
        self.assertEqual(desk.tree_of(2), ("splice", 0, 3, 1, ONE, FIRST))

    def test_each_error_at_each_place(self):
        desk = Desk(Box(["abc", "xab"], [RULE, RULE]))
        desk(1, 0, 2, 1, 2)
        films = desk.films()
        self.assertEqual(films, ["abc", "xab", "abb"])
        for index in (-1, -2, 2, 3, 10 ** 30):
            self.assert_error(UnknownRule, index, desk, index, 0, 2, 0, 1)
            self.assert_error(UnknownRule, index, desk, index, -7, 77, -8, 78)
        for number in (-1, -3, 3, 4, 10 ** 30):
            self.assert_error(UnknownStrip, number, desk, 0, number, 2, 0, 1)
            self.assert_error(UnknownStrip, number, desk, 0, 0, 2, number, 1)
            self.assert_error(UnknownStrip, number, desk, 0, number, 77, -8, 78)
            self.assert_error(UnknownStrip, number, desk, 1, 2, 77, number, 78)
            self.assert_error(UnknownStrip, number, desk.tree_of, number)
        for cut in (-2, -1, 0, 1, 3, 4, 10 ** 30):
            self.assert_error(NoSplice, cut, desk, 0, 0, cut, 1, 2)
            self.assert_error(NoSplice, cut, desk, 0, 0, cut, 1, 77)
        for place in (-2, -1, 0, 1, 3, 4, -10 ** 30):
            self.assert_error(NoSplice, place, desk, 0, 0, 2, 1, place)
        self.assert_error(NoSplice, 2, desk, 0, 2, 2, 1, 2)
        for text in WRONG_TEXTS + [""]:
            self.assert_error(InvalidFilm, text, desk.lies, text)
        self.assertEqual((desk.films(), len(desk), desk.undo(), len(desk)), (films, 3, None, 2))
        self.assert_error(NothingToUndo, 0, desk.undo)
        self.assert_error(NothingToUndo, 0, desk.undo)

    def test_desks_without_strips_or_rules(self):
        desk = Desk(Box([], [RULE]))
        self.assertEqual((desk.films(), len(desk), desk.can(), desk.now(), desk.lies("a")), ([], 0, [], Box([], [RULE]), False))
        self.assert_error(UnknownStrip, 0, desk, 0, 0, 2, 0, 1)
        self.assert_error(UnknownStrip, 0, desk.follow, FIRST)
        self.assert_error(UnknownStrip, 0, desk.tree_of, 0)
        desk = Desk(Box(["abc"], []))
        self.assertEqual((desk.can(), desk.follow(FIRST), len(desk)), ([], 0, 1))
        self.assert_error(UnknownRule, 0, desk, 0, 0, 2, 0, 1)
        self.assert_error(UnknownRule, 0, desk.follow, ONE)

    def test_the_told_lists_are_new(self):
        desk = Desk(ROUND)
        desk(0, 0, 2, 0, 1)
        for ask in (desk.films, desk.can, lambda: desk.now().strips, lambda: desk.now().rules):
            self.assert_new_lists(ask)
        self.assertEqual((desk.films(), len(desk), desk.lies("abbc")), (["abc", "abbc"], 2, True))
        self.assertEqual(ROUND, Box(["abc"], [RULE]))


class Follow(Case):
    def test_trees_with_and_without_a_splice(self):
        desk = Desk(ROUND)
        self.assertEqual((desk.follow(FIRST), desk.films()), (0, ["abc"]))
        self.assertEqual((desk.follow(ONE), desk.films()), (1, ["abc", "abbc"]))
        self.assertEqual((desk.follow(("strip", 1)), desk.tree_of(1)), (1, ONE))
        for size in (2, 1, 1):
            self.assertIsNone(desk.undo())
            self.assertEqual(len(desk), size)
        self.assert_error(NothingToUndo, 0, desk.undo)

    def test_the_first_tree_ahead_of_the_second_one(self):
        desk = Desk(Box(["ab", "cd"], [("b", "", "", "c"), ("d", "", "", "a"), ("d", "", "", "c")]))
        first, second = ("splice", 0, 2, 0, FIRST, ("strip", 1)), ("splice", 1, 2, 0, ("strip", 1), FIRST)
        self.assertEqual(desk.follow(("splice", 2, 4, 0, first, second)), 4)
        self.assertEqual(desk.films(), ["ab", "cd", "abcd", "cdab", "abcdcdab"])
        desk.undo()
        self.assertEqual(len(desk), 2)
        self.assertEqual(desk.follow(("splice", 0, 4, 2, second, first)), 4)
        self.assertEqual(desk.films(), ["ab", "cd", "cdab", "abcd", "cdabcd"])

    def test_trees_are_those_by_which_films_came_first(self):
        desk = Desk(ROUND)
        three = ("splice", 0, 2, 1, FIRST, ONE)
        other = ("splice", 0, 3, 1, ONE, FIRST)
        self.assertEqual(desk.follow(three), 2)
        # The part of the tree that makes abbbc otherwise brings nothing, and leaves no trace.
        self.assertEqual(desk.follow(("splice", 0, 4, 1, other, FIRST)), 3)
        self.assertEqual(desk.tree_of(3), ("splice", 0, 4, 1, three, FIRST))
        self.assertEqual(desk.follow(other), 2)
        self.assertEqual(desk.tree_of(2), three)
        # The strips of the tree are the films that lie there.
        self.assertEqual(desk.follow(("splice", 0, 5, 1, ("strip", 3), ("strip", 3))), 4)
        self.assertEqual(desk.tree_of(4), ("splice", 0, 5, 1, desk.tree_of(3), desk.tree_of(3)))
        self.assertEqual(desk.films()[4], "abbbbbbbbc")
        self.assertIs(judge_tree(ROUND, "abbbbbbbbc", desk.tree_of(4)), True)

    def test_films_that_come_by_the_tree_are_no_strips_of_it(self):
        desk = Desk(ROUND)
        self.assert_error(UnknownStrip, 1, desk.follow, ("splice", 0, 3, 1, ONE, ("strip", 1)))
        self.assertEqual(desk.films(), ["abc"])
        desk.follow(ONE)
        self.assertEqual(desk.follow(("splice", 0, 3, 1, ONE, ("strip", 1))), 2)

    def test_trees_that_are_wrong_somewhere(self):
        desk = Desk(Box(["abc", "xab"], [RULE]))
        desk(0, 0, 2, 0, 1)
        films = desk.films()
        for part, error, value in [
            (("strip", 3), UnknownStrip, 3), (("strip", -1), UnknownStrip, -1),
            (("splice", 1, 2, 1, FIRST, FIRST), UnknownRule, 1), (("splice", -1, 2, 1, FIRST, FIRST), UnknownRule, -1),
            (("splice", 0, 3, 9, FIRST, FIRST), NoSplice, 3), (("splice", 0, 2, 9, FIRST, FIRST), NoSplice, 9),
        ]:
            for told in (
                part, ("splice", 0, 2, 1, part, FIRST), ("splice", 0, 2, 1, FIRST, part),
                ("splice", 0, 3, 1, ("splice", 0, 2, 2, FIRST, ("strip", 1)), part),
                ("splice", 5, 55, 56, part, ("strip", 9)), ("splice", 5, 55, 56, ONE, ("splice", 0, 3, 1, ONE, part)),
            ):
                self.assert_error(error, value, desk.follow, told)
                self.assertEqual(desk.films(), films)
        self.assert_error(UnknownRule, 5, desk.follow, ("splice", 5, 55, 56, ONE, ONE))
        self.assert_error(NoSplice, 55, desk.follow, ("splice", 0, 55, 56, ONE, ONE))
        self.assert_error(NoSplice, 56, desk.follow, ("splice", 0, 3, 56, ONE, ONE))
        self.assertEqual((desk.films(), desk.undo(), desk.films()), (films, None, films[:2]))
        self.assert_error(NothingToUndo, 0, desk.undo)

    def test_trees_of_boxes(self):
        for strips, rules in boxes_by_chance(105, 30):
            box = Box(list(dict.fromkeys(strips)), rules)
            for film in texts("abc", 4):
                told = tree_by(box, film)
                if told is not None:
                    desk = Desk(box)
                    number = desk.follow(told)
                    self.assertEqual(desk.films()[number], film)
                    found = desk.tree_of(number)
                    self.assertEqual((film_of(box, found), splices(found)), (film, splices(told)))
                    self.assertEqual((desk.undo(), desk), (None, Desk(box)))


class Undo(Case):
    def test_calls_that_brought_nothing(self):
        desk = Desk(ROUND)
        desk(0, 0, 2, 0, 1)
        desk(0, 0, 2, 0, 1)
        desk.follow(ONE)
        desk.follow(FIRST)
        sizes = []
        for _ in range(4):
            self.assertIsNone(desk.undo())
            sizes.append(len(desk))
        self.assertEqual(sizes, [2, 2, 2, 1])
        self.assert_error(NothingToUndo, 0, desk.undo)
        self.assertEqual((desk.films(), desk.lies("abbc"), desk), (["abc"], False, Desk(ROUND)))

    def test_follow_is_one_call(self):
        desk = Desk(ROUND)
        desk(0, 0, 2, 0, 1)
        self.assertEqual(desk.follow(("splice", 0, 4, 1, ("splice", 0, 3, 1, ("strip", 1), FIRST), ("strip", 1))), 3)
        self.assertEqual((desk.undo(), desk.films()), (None, ["abc", "abbc"]))
        self.assertEqual((desk.undo(), desk.films()), (None, ["abc"]))
        self.assert_error(NothingToUndo, 0, desk.undo)

    def test_what_was_taken_back_may_come_anew(self):
        desk = Desk(Box(["abc"], [RULE, ("ab", "", "", "bc")]))
        self.assertEqual((desk(0, 0, 2, 0, 1), desk.undo(), desk(1, 0, 2, 0, 1)), (1, None, 1))
        self.assertEqual(desk.tree_of(1), ("splice", 1, 2, 1, FIRST, FIRST))
        self.assert_error(UnknownStrip, 2, desk.tree_of, 2)
        self.assertEqual(desk.can(), [call for call in desk.can() if desk.lies("abbc")])


class Equality(Case):
    def test_equal_desks_on_unlike_roads(self):
        one, other = Desk(ROUND), Desk(Box(["abc"], [RULE]))
        self.assertTrue(one == other and not one != other)
        one(0, 0, 2, 0, 1)
        self.assertTrue(one != other and not one == other)
        other.follow(ONE)
        self.assertTrue(one == other)
        one(0, 0, 2, 1, 1)
        other(0, 1, 3, 0, 1)
        self.assertTrue(one == other and one.tree_of(2) != other.tree_of(2))
        one(0, 0, 2, 0, 1)
        self.assertTrue(one == other)
        one.undo()
        one.undo()
        self.assertFalse(one == other)

    def test_films_in_another_order_and_other_boxes(self):
        rules = [("b", "", "", "a"), ("a", "", "", "b")]
        one, other = Desk(Box(["ab", "ba"], rules)), Desk(Box(["ab", "ba"], rules))
        one(0, 0, 2, 0, 0)
        one(1, 1, 2, 1, 0)
        other(1, 1, 2, 1, 0)
        other(0, 0, 2, 0, 0)
        self.assertEqual(sorted(one.films()), sorted(other.films()))
        self.assertFalse(one == other)
        # The films are the same, the boxes are not.
        self.assertFalse(Desk(Box(["ab", "ab"], rules)) == Desk(Box(["ab"], rules)))
        self.assertFalse(Desk(Box(["ab"], rules)) == Desk(Box(["ab"], rules[:1])))
        self.assertFalse(Desk(Box(["ab"], rules)) == Desk(Box(["ab"], rules[::-1])))

    def test_a_desk_and_anything_else(self):
        desk = Desk(ROUND)
        for other in (ROUND, ["abc"], "abc", ("abc",), None, 1, 0, {}, [], desk.now(), desk.films(), object()):
            self.assertIs(desk == other, False)
            self.assertIs(other == desk, False)
            self.assertIs(desk != other, True)


class Bounds(Case):
    def test_great_boxes_and_long_films(self):
        strips = [letter * 40 for letter in "abcdefghijklmnopqrstuvwxyz"] + ["ab" * 20, "ba" * 20, "abc" * 13, "z" * 39]
        rules = [("ab" * 5, "ab" * 5, "ab" * 5, "ab" * 5)] * 35 + [("z" * 10, "", "", "z" * 10)]
        box = Box(strips, rules)
        desk = Desk(box)
        self.assertEqual(len(desk), 30)
        number = 25
        for many in range(2, 11):
            number = desk(35, number, 40 * (many - 1), 25, 0)
            self.assertEqual(desk.films()[number], "z" * (40 * many))
        self.assertEqual(splices(desk.tree_of(number)), 9)
        self.assert_error(NoSplice, 9, desk, 35, number, 9, 25, 0)
        self.assertEqual(desk(34, 26, 10, 26, 28), 39)
        self.assertEqual(desk.films()[39], "ab" * 11)

    def test_two_hundred_calls(self):
        desk = Desk(ROUND)
        for many in range(199):
            self.assertEqual(desk(0, many, many + 2, 0, 1), many + 1)
        self.assertEqual((len(desk), splices(desk.tree_of(199))), (200, 199))
        self.assertEqual(film_of(ROUND, desk.tree_of(199)), "a" + "b" * 200 + "c")
        for many in range(199):
            desk.undo()
        self.assertEqual(len(desk), 1)

    def test_trees_of_four_hundred_splices(self):
        told, other = FIRST, FIRST
        for many in range(397):
            told = ("splice", 0, many + 2, 1, told, FIRST)
            other = ("splice", 0, 2, 1, FIRST, other)
        film = "a" + "b" * 398 + "c"
        desk = Desk(ROUND)
        self.assertEqual((desk.follow(told), desk.films()[-1], len(film)), (397, film, 400))
        self.assertEqual((desk.follow(other), len(desk)), (397, 398))
        self.assertEqual(film_of(ROUND, desk.tree_of(397)), film)
        self.assertEqual((desk.undo(), desk.undo(), len(desk)), (None, None, 1))

    def test_can_of_twelve_films_of_forty_pictures(self):
        strips = ["a" * 5, "b" * 5, "ab" * 2, "ba"]
        rules = [("a", "", "", "b"), ("b", "", "", "a"), ("a", "a", "a", "a")]
        desk = Desk(Box(strips, rules))
        model = Model(strips, rules)
        for call in [(0, 0, 5, 1, 0), (1, 4, 10, 4, 0), (1, 5, 20, 5, 0)]:
            self.assertEqual(desk(*call), model.do(call))
        self.assertEqual(len(desk.films()[-1]), 40)
        self.assertEqual(desk.can(), model.can())
        while len(desk) < 12:
            films = desk.films()
            call = max(desk.can(), key=lambda call: -abs(call[2] + len(films[call[3]]) - call[4] - 39))
            self.assertEqual(desk(*call), model.do(call))
        self.assertEqual(desk.films(), model.films)
        can = desk.can()
        self.assertEqual(can, sorted(set(can)))
        self.assertEqual(can, model.can())

    def test_what_can_is_all_splices(self):
        desk = Desk(Box(["abc", "cab"], [RULE, ("c", "", "", "c")]))
        for _ in range(3):
            desk(*desk.can()[0])
        films = desk.films()
        made = {films[film][:cut] + films[other][place:] for _, film, cut, other, place in desk.can()}
        splices_of = {splice for one, two in itertools.product(films, repeat=2)
                      for splice in all_splices(desk.now().rules, one, two)}
        self.assertEqual(made, splices_of - set(films))


if __name__ == "__main__":
    unittest.main()

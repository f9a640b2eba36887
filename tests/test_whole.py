"""The whole program: what point [9] guarantees between the modules, and point [2] of all of them."""

import copy
import itertools
import random
import unittest

from cases import Case, lists_of, spoil
from naive import all_splices, boxes_by_chance, in_order, pieces_of, table_by_chance, texts
from samples import FEW, MANY
from splicedfilms import (
    boxes, compare, desks, errors, fewest, films, guesses, joints, origins, questions, readings, seams, tables)
from splicedfilms import texts as shown
from splicedfilms.boxes import Box

SIGNS = "abcz"


def drawn(seed, number):
    """Return boxes within the bounds of point [2], most of them by chance."""
    return [Box(strips, rules) for strips, rules in boxes_by_chance(seed, number) + FEW + [sample[:2] for sample in MANY]]


def films_of(box, most=12):
    """Return some films of a box, in their order."""
    return [film for film in (questions.film_at(box, index) for index in range(most)) if film is not None]


class Guarantees(Case):
    def test_the_table_holds_just_what_comes_about(self):
        for box in drawn(121, 40):
            told = tables.table(box)
            self.assertIs(tables.judge_table(box, told), True)
            self.assertIs(tables.is_closed(box, told), True)
            self.assertIsNone(tables.apart(told, tables.least(told)))
            for film in texts(box.pictures(), 3) + films_of(box):
                self.assertIs(tables.holds(told, film), films.comes(box, film))
                self.assertIs(questions.rank(box, film) is not None, films.comes(box, film))

    def test_closed_tables_hold_all_that_comes_about(self):
        chance = random.Random(1)
        seen = [0, 0]
        for box in drawn(122, 40):
            others = [table_by_chance(chance, box.pictures(), 2) for _ in range(3)]
            others += [tables.table(box.with_strip("ab")), tables.table(box.without_rule(0) if len(box) else box)]
            for told in others:
                closed = tables.is_closed(box, told)
                lacking = tables.apart(tables.table(box), told)
                seen[closed] += 1
                if closed:
                    self.assertTrue(all(tables.holds(told, film) for film in films_of(box)))
                    self.assertTrue(lacking is None or lacking == "" or not films.comes(box, lacking))

    def test_needless_strips_rules_and_parts(self):
        for box in drawn(123, 40):
            strips, rules = box.strips, box.rules
            needless = [at for at, strip in enumerate(strips) if films.comes(box.without_strip(at), strip)]
            self.assertEqual(compare.needless_strips(box), needless)
            needless = [at for at in range(len(rules)) if tables.is_closed(box, tables.table(box.without_rule(at)))]
            self.assertEqual(compare.needless_rules(box), needless)
            if len(strips) + len(rules) <= 5:
                for some, others in compare.least_boxes(box):
                    part = Box([strips[at] for at in some], [rules[at] for at in others])
                    self.assertIs(compare.alike(box, part), True)
                    self.assertIs(tables.is_closed(box, tables.table(part)), True)
                    self.assertEqual((compare.needless_strips(part), compare.needless_rules(part)), ([], []))

    def test_within_by_fewest(self):
        for box in drawn(124, 40):
            deep = films.within(box, 2)
            if len(deep) <= 200:
                for most in range(3):
                    known = films.within(box, most)
                    self.assertEqual(known, [film for film in deep if fewest.fewest(box, film) <= most])
                    for film in texts("abc", 3):
                        cost = fewest.fewest(box, film)
                        self.assertIs(film in known, cost is not None and cost <= most)
                    first = seams.beyond(box, most)
                    self.assertTrue(first is None or fewest.fewest(box, first) > most)
                    self.assertTrue(first is not None or questions.how_many(box) == len(known))

    def test_strips_and_seams(self):
        for box in drawn(125, 40):
            for film in texts(box.pictures(), 3) + films_of(box):
                found = seams.seams(box, film)
                self.assertIs(films.comes(box, film), film in box.strips or found != [])
                costs = [films.splices(seams.tree_at(box, film, index, at)) for index, at in found]
                costs += [0] if film in box.strips else []
                self.assertEqual(fewest.fewest(box, film), min(costs, default=None))
                for some, others in seams.reasons(box, film):
                    part = Box([box.strips[at] for at in some], [box.rules[at] for at in others])
                    self.assertIs(films.comes(part, film), True)

    def test_joints_and_what_rules_bring(self):
        for box in drawn(126, 40):
            for piece in questions.pieces(box, 2) + questions.pieces(box, 3)[:4] + ["z", "zz"]:
                joins = joints.is_joint(box, piece)
                self.assertIs(joints.torn(box, piece) is None, joins)
                self.assertTrue(not joins or joints.is_joint(box, piece + "a") and joints.is_joint(box, "b" + piece))
                for cut in range(1, len(piece)):
                    rule = (piece[:cut], piece[cut:]) * 2
                    self.assertIs(compare.brings(box, rule) is None, joins)
                    self.assertIs(origins.broken(tables.table(box), rule) is None, joins)

    def test_sets_between_two_that_fit(self):
        for box in drawn(127, 15):
            menu = [("a", "", "", "b"), ("b", "", "", "b"), ("b", "a", "", "a")]
            known = films_of(box.with_rule(menu[0]))
            told = guesses.fitting(box, menu, known[:1], known[-1:] if len(known) > 1 else [])
            for low, high in itertools.product(told, repeat=2):
                between = [row for size in range(4) for row in itertools.combinations(range(3), size)
                           if set(low) <= set(row) <= set(high)]
                self.assertTrue(all(list(row) in told for row in between))

    def test_barred_pieces_and_what_stands(self):
        for box in drawn(128, 30):
            bars = questions.barred(box, 3)
            stands = questions.shortest(box) != []
            for text in [""] + texts(box.pictures(), 3):
                free = stands and not any(bar in text for bar in bars)
                self.assertIs(questions.some_have(box, text) is not None, free)
                self.assertIs(fewest.fewest_with(box, text) is not None, free)

    def test_desks_make_the_same_films(self):
        chance = random.Random(2)
        for box in drawn(129, 30):
            desk = desks.Desk(box)
            for _ in range(4):
                can = desk.can() if len(desk) <= 12 and max(map(len, desk.films()), default=0) <= 40 else []
                if can:
                    desk(*chance.choice(can))
                self.assertIs(compare.alike(box, desk.now()), True)
            for number, film in enumerate(desk.films()):
                self.assertIs(films.judge_tree(box, film, desk.tree_of(number)), True)
                self.assertLessEqual(fewest.fewest(box, film), films.splices(desk.tree_of(number)))

    def test_tables_and_their_greatest_boxes(self):
        chance = random.Random(3)
        for told in [table_by_chance(chance, "ab", 4) for _ in range(40)]:
            for length, size in ((1, 1), (3, 1), (2, 0)):
                box = origins.greatest_box(told, length, size)
                first = origins.unmade(told, length, size)
                self.assertIs(tables.is_closed(box, told), True)
                self.assertTrue(first is None or tables.holds(told, first) and not films.comes(box, first))
                if told[2][:1] != [0]:
                    self.assertIs(tables.judge_table(box, told), first is None)

    def test_splices_of_films_come_about(self):
        for box in drawn(130, 30):
            known = films_of(box, 8)
            for one, other in itertools.product(known, repeat=2):
                for splice in all_splices(box.rules, one, other):
                    self.assertIs(films.comes(box, splice), True)

    def test_exchanges_ranks_and_pieces(self):
        for box in drawn(131, 30):
            known = films_of(box)
            self.assertEqual(known, in_order(known))
            self.assertEqual([questions.rank(box, film) for film in known], list(range(len(known))))
            for film in known[:5]:
                for piece in sorted(pieces_of(film))[:6]:
                    self.assertIn(piece, questions.pieces(box, len(piece)))
                    self.assertIsNone(questions.exchanged(box, piece, piece))


def ask_trees(box, draw):
    """Return what is told of the trees of a film; which one of several is told does not matter."""
    film = draw["film"]
    told = films.tree(box, film)
    found = [None if told is None else (films.splices(told), films.film_of(box, told), films.judge_tree(box, film, told))]
    for index, at in seams.seams(box, film):
        told = seams.tree_at(box, film, index, at)
        found.append((index, at, films.splices(told), films.film_of(box, told)))
    return found


def ask_desk(box, draw):
    desk = desks.Desk(box)
    found = [desk.films(), len(desk), desk.can()]
    for call in found[2][:2]:
        found.append([desk(*call), desk.films(), desk.tree_of(len(desk) - 1), desk.lies(draw["film"])])
    found.append([desk.now().strips, desk.now().rules, desk.undo(), desk == desks.Desk(box), desk.films()])
    return found


QUESTIONS = [
    lambda box, draw: [box.strips, box.rules, box.pictures(), len(box), box == Box(box.strips, box.rules)],
    lambda box, draw: films.comes(box, draw["film"]),
    ask_trees,
    lambda box, draw: seams.tree_at(box, draw["film"], draw["index"], draw["length"])[:3],
    lambda box, draw: films.film_of(box, draw["tree"]),
    lambda box, draw: films.judge_tree(box, draw["film"], draw["tree"]),
    lambda box, draw: films.within(box, min(draw["length"], 1)),
    lambda box, draw: seams.seams(box, draw["film"]),
    lambda box, draw: seams.reasons(box, draw["film"]) if len(box.strips) + len(box) <= 5 else None,
    lambda box, draw: seams.beyond(box, min(draw["length"], 1)),
    lambda box, draw: fewest.fewest(box, draw["film"]),
    lambda box, draw: fewest.fewest_with(box, draw["piece"]),
    lambda box, draw: fewest.fewest_long(box, draw["length"]),
    lambda box, draw: tables.table(box),
    lambda box, draw: tables.is_closed(box, draw["table"]),
    lambda box, draw: tables.judge_table(box, draw["table"]),
    lambda box, draw: questions.number(box, draw["length"]),
    lambda box, draw: questions.number_rest(box, draw["length"], draw["index"]),
    lambda box, draw: [questions.is_endless(box), questions.how_many(box), questions.shortest(box), questions.longest(box)],
    lambda box, draw: [questions.some_have(box, draw["piece"]), questions.all_have(box, draw["piece"])],
    lambda box, draw: questions.pieces(box, draw["length"]),
    lambda box, draw: [questions.beginnings(box, draw["length"]), questions.endings(box, draw["length"])],
    lambda box, draw: [questions.beside(box), questions.barred(box, draw["length"])],
    lambda box, draw: questions.exchanged(box, draw["piece"], draw["film"]),
    lambda box, draw: [questions.rank(box, draw["film"]), questions.film_at(box, draw["index"])],
    lambda box, draw: [ask(box, draw["other"]) for ask in (compare.alike, compare.first_unlike, compare.first_more)],
    lambda box, draw: [compare.needless_rules(box), compare.needless_strips(box)],
    lambda box, draw: compare.least_boxes(box) if len(box.strips) + len(box) <= 5 else None,
    lambda box, draw: compare.brings(box, draw["rule"]),
    lambda box, draw: [joints.is_joint(box, draw["piece"]), joints.torn(box, draw["piece"])],
    lambda box, draw: [joints.joints(box, draw["length"]), joints.looks_back(box)],
    lambda box, draw: origins.broken(tables.table(box), draw["rule"]),
    lambda box, draw: guesses.fitting(box, draw["menu"], [draw["film"]], []),
    lambda box, draw: guesses.telling(box, draw["menu"], [], [draw["film"]]),
    ask_desk,
    lambda box, draw: shown.show_box(box),
    lambda box, draw: readings.read_box(shown.show_box(box)).rules,
    lambda box, draw: boxes.cuts(draw["rule"], draw["film"]) + boxes.places(draw["rule"], draw["film"]),
    lambda box, draw: boxes.spliced(draw["rule"], draw["film"], draw["index"], draw["film"], draw["length"]),
    lambda box, draw: [box.with_strip(draw["film"]).strips, box.with_rule(draw["rule"]).rules],
    lambda box, draw: [box.without_strip(draw["index"]).strips, box.without_rule(draw["index"]).rules],
]


def draw_by_chance(chance, box):
    """Return what is asked of a box, now and then something wrong."""
    def text(least, most):
        return "".join(chance.choice(SIGNS) for _ in range(chance.randint(least, most)))

    rule = chance.choice(box.rules + [(text(1, 2), text(0, 1), text(0, 1), text(1, 2))])
    told = tables.table(chance.choice([box, box.with_strip("ab")]))
    tree = films.tree(box, chance.choice(films_of(box) or ["a"])) or ("strip", 0)
    draw = {
        "film": chance.choice(films_of(box) + [text(1, 4), text(1, 4)]), "piece": text(0, 3), "rule": rule,
        "length": chance.randint(0, 3), "index": chance.randint(0, 4), "table": told, "tree": tree,
        "menu": [rule, ("a", "", "", "b"), rule], "other": box.with_strip(text(1, 4)),
    }
    wrong = {
        "film": "", "piece": "A", "rule": ("a", "", "", ""), "length": -1, "index": -1, "table": ("ba", [[0, 0]], []),
        "tree": ("splice", 0, 99, 0, ("strip", 0), ("strip", 0)), "menu": [rule, ("a",)],
    }
    if chance.random() < 0.25:
        name = chance.choice(sorted(wrong))
        draw[name] = wrong[name]
    return draw


def answer(ask, box, draw):
    try:
        return ask(box, draw)
    except errors.FilmError as caught:
        return [type(caught), caught.value]


class Sequences(Case):
    def check(self, ask, box, fresh, draw):
        before = copy.deepcopy({name: draw[name] for name in draw if name != "other"})
        told = answer(ask, box, draw)
        self.assertEqual(told, answer(ask, fresh, copy.deepcopy(draw)), (fresh.strips, fresh.rules, draw))
        alone = lists_of(told)
        self.assertEqual(len({id(part) for part in alone}), len(alone))
        kept = copy.deepcopy(told)
        spoil(told)
        self.assertEqual({name: draw[name] for name in before}, before)
        spoil([draw[name] for name in draw if name in ("table", "menu")])
        return kept

    def test_questions_in_drawn_sequences(self):
        chance = random.Random(31)
        errors_seen = 0
        for strips, rules in boxes_by_chance(141, 60) + FEW:
            box = Box(strips, rules)
            for _ in range(25):
                told = self.check(chance.choice(QUESTIONS), box, Box(strips, rules), draw_by_chance(chance, Box(strips, rules)))
                errors_seen += isinstance(told, list) and len(told) == 2 and isinstance(told[0], type)
            self.assertEqual((box, box.strips, box.rules), (Box(strips, rules), strips, rules))
        self.assertGreater(errors_seen, 60)

    def test_each_question_twice(self):
        chance = random.Random(32)
        for strips, rules in boxes_by_chance(142, 12):
            box = Box(strips, rules)
            for ask in QUESTIONS:
                draw = draw_by_chance(chance, Box(strips, rules))
                again = copy.deepcopy(draw)
                self.assertEqual(self.check(ask, box, Box(strips, rules), draw), self.check(ask, box, Box(strips, rules), again))

    def test_boxes_that_are_made_of_asked_ones(self):
        chance = random.Random(33)
        for strips, rules in boxes_by_chance(143, 25):
            box = Box(strips, rules)
            for _ in range(6):
                answer(chance.choice(QUESTIONS), box, draw_by_chance(chance, Box(strips, rules)))
            made = [
                (box.with_strip("ab"), Box(strips + ["ab"], rules)),
                (box.with_rule(("a", "", "", "b")), Box(strips, rules + [("a", "", "", "b")])),
                (box.without_strip(0), Box(strips[1:], rules)),
                (box + Box(["b"], []), Box(strips + ["b"], rules)),
                (readings.read_box(shown.show_box(box)), Box(strips, rules)),
                (desks.Desk(box).now(), Box(list(dict.fromkeys(strips)), rules)),
            ]
            if rules:
                made.append((box.without_rule(len(rules) - 1), Box(strips, rules[:-1])))
            for other, fresh in made:
                self.assertEqual(other, fresh)
                for ask in chance.sample(QUESTIONS, 4):
                    draw = draw_by_chance(chance, Box(strips, rules))
                    self.check(ask, other, Box(fresh.strips, fresh.rules), draw)
            self.assertEqual(box, Box(strips, rules))


if __name__ == "__main__":
    unittest.main()

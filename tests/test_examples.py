"""The examples of the document's interface, as they stand there."""

import doctest
import unittest

BOXES = '''
>>> from splicedfilms.boxes import Box, cuts, places, spliced
>>> rule = ("a", "b", "b", "c")
>>> [spliced(rule, "aab", 2, "abcd", 2), cuts(rule, "abab"), places(rule, "abcbc"), cuts(("a", "", "", "a"), "aba")]
['aacd', [1, 3], [2, 4], [1, 3]]
>>> box = Box(["ab", "bc"], [rule])
>>> [box.pictures(), len(box), box.with_rule(("c", "", "", "a")).rules, box.without_strip(0).strips, (box + box).strips]
['abc', 1, [('a', 'b', 'b', 'c'), ('c', '', '', 'a')], ['bc'], ['ab', 'bc', 'ab', 'bc']]
'''

FILMS = '''
>>> from splicedfilms.boxes import Box
>>> from splicedfilms.films import comes, film_of, judge_tree, splices, tree, within
>>> round_box = Box(["abc"], [("b", "c", "a", "b")])
>>> [comes(round_box, "abbbc"), comes(round_box, "abcbc"), within(round_box, 1), judge_tree(round_box, "abbc", ("splice", 0, 2, 1, ("strip", 0), ("strip", 0)))]
[True, False, ['abc', 'abbc'], True]
>>> told = tree(round_box, "abbbc")
>>> [film_of(round_box, told), splices(told), judge_tree(round_box, "abbbc", told), tree(round_box, "ab")]
['abbbc', 2, True, None]
'''

SEAMS = '''
>>> from splicedfilms.boxes import Box
>>> from splicedfilms.seams import beyond, reasons, seams, tree_at
>>> round_box = Box(["abc"], [("b", "c", "a", "b")])
>>> [seams(round_box, "abbbc"), tree_at(round_box, "abbc", 0, 2), reasons(round_box, "abbc"), reasons(round_box, "ab"), beyond(round_box, 1)]
[[(0, 2), (0, 3)], ('splice', 0, 2, 1, ('strip', 0), ('strip', 0)), [([0], [0])], [], 'abbbc']
'''

FEWEST = '''
>>> from splicedfilms.boxes import Box
>>> from splicedfilms.fewest import fewest, fewest_long, fewest_with
>>> round_box = Box(["abc"], [("b", "c", "a", "b")])
>>> [fewest(round_box, "abc"), fewest(round_box, "abbbc"), fewest(round_box, "ab"), fewest_with(round_box, "bbb"), fewest_long(round_box, 7), fewest_long(round_box, 2)]
[0, 2, None, 2, 4, None]
'''

TABLES = '''
>>> from splicedfilms.boxes import Box
>>> from splicedfilms.tables import apart, holds, is_closed, judge_table, least, table
>>> round_box = Box(["abc"], [("b", "c", "a", "b")])
>>> told = table(round_box)
>>> [told, holds(told, "abbc"), holds(told, "abd"), judge_table(round_box, told), is_closed(round_box, ("abc", [[0, 0, 0]], [0]))]
[('abc', [[1, 2, 2], [2, 3, 2], [2, 2, 2], [2, 3, 4], [2, 2, 2]], [4]), True, False, True, True]
>>> [judge_table(round_box, ("abc", [[0, 0, 0]], [0])), apart(told, ("abc", [[0, 0, 0]], [0])), least(("ab", [[1, 2], [0, 0], [1, 1]], []))]
[False, '', ('ab', [[0, 0]], [])]
'''

QUESTIONS = '''
>>> from splicedfilms.boxes import Box
>>> from splicedfilms.questions import all_have, barred, beginnings, beside, endings, exchanged, film_at, how_many, is_endless, longest, number, number_rest, pieces, rank, shortest, some_have
>>> round_box = Box(["abc"], [("b", "c", "a", "b")])
>>> [number(round_box, 7), number(round_box, 2), number_rest(round_box, 10 ** 30, 7), is_endless(round_box), how_many(round_box), shortest(round_box), longest(round_box)]
[1, 0, 1, True, None, ['abc'], None]
>>> [some_have(round_box, "bbb"), all_have(round_box, "bb"), all_have(round_box, "ab"), pieces(round_box, 2), beginnings(round_box, 2), endings(round_box, 3), beside(round_box)]
['abbbc', 'abc', None, ['ab', 'bb', 'bc'], ['ab'], ['abc', 'bbc'], ['aa', 'ac', 'ba', 'ca', 'cb', 'cc']]
>>> swap = Box(["ab", "cd"], [("a", "b", "c", "d")])
>>> [how_many(swap), longest(swap), shortest(swap), film_at(swap, 3), rank(round_box, "abbc"), film_at(round_box, 4)]
[3, ['ab', 'ad', 'cd'], ['ab', 'ad', 'cd'], None, 1, 'abbbbbc']
>>> [barred(round_box, 3), exchanged(round_box, "b", "bb"), exchanged(round_box, "b", ""), exchanged(round_box, "c", "bc")]
[['aa', 'ac', 'ba', 'ca', 'cb', 'cc'], None, 'abc', None]
'''

COMPARE = '''
>>> from splicedfilms.boxes import Box
>>> from splicedfilms.compare import alike, brings, first_more, first_unlike, least_boxes, needless_rules, needless_strips
>>> round_box = Box(["abc", "abbc"], [("b", "c", "a", "b"), ("bb", "c", "a", "b")])
>>> [needless_rules(round_box), needless_strips(round_box), least_boxes(round_box), brings(round_box, ("b", "", "", "b")), brings(round_box, ("a", "b", "b", "c"))]
[[0, 1], [1], [([0], [0]), ([0, 1], [1])], None, 'ac']
>>> plain = Box(["abc", "abbc"], [])
>>> [alike(round_box, plain), first_unlike(round_box, plain), first_more(plain, round_box)]
[False, 'abbbc', None]
'''

JOINTS = '''
>>> from splicedfilms.boxes import Box
>>> from splicedfilms.joints import is_joint, joints, looks_back, torn
>>> round_box, apart_box = Box(["abc"], [("b", "c", "a", "b")]), Box(["bac", "dae"], [("ba", "", "b", "a"), ("da", "", "d", "a")])
>>> [is_joint(round_box, "b"), joints(round_box, 1), looks_back(round_box), is_joint(apart_box, "aa"), torn(apart_box, "aa"), looks_back(apart_box), is_joint(apart_box, "ba")]
[True, ['a', 'b', 'c'], 1, False, 'baae', None, True]
'''

ORIGINS = '''
>>> from splicedfilms.boxes import Box
>>> from splicedfilms.origins import broken, greatest_box, kept_rules, unmade
>>> from splicedfilms.tables import table
>>> told = table(Box(["ab"], [("b", "", "", "b")]))
>>> [told, broken(told, ("b", "", "", "a")), broken(told, ("a", "b", "", "b")), len(kept_rules(told, 1)), greatest_box(told, 2, 1).strips, unmade(told, 1, 1), unmade(told, 2, 1)]
[('ab', [[1, 2], [2, 3], [2, 2], [2, 3]], [3]), 'abab', None, 32, ['ab'], 'ab', None]
'''

GUESSES = '''
>>> from splicedfilms.boxes import Box
>>> from splicedfilms.guesses import fitting, telling
>>> menu = [("b", "c", "a", "b"), ("a", "b", "b", "c"), ("b", "c", "b", "c")]
>>> [fitting(Box(["abc"], []), menu, ["abbc"], ["ac"]), telling(Box(["abc"], []), menu, [], ["ac"]), telling(Box(["abc"], []), menu, ["abbc"], ["ac"])]
[[[0], [0, 2]], 'abbc', None]
'''

DESKS = '''
>>> from splicedfilms.boxes import Box
>>> from splicedfilms.desks import Desk
>>> desk = Desk(Box(["abc", "abc"], [("b", "c", "a", "b")]))
>>> [desk.can(), desk(0, 0, 2, 0, 1), desk.films(), len(desk.can()), desk(0, 0, 2, 0, 1), desk.tree_of(1), desk.undo(), len(desk), desk.undo(), len(desk)]
[[(0, 0, 2, 0, 1)], 1, ['abc', 'abbc'], 3, 1, ('splice', 0, 2, 1, ('strip', 0), ('strip', 0)), None, 2, None, 1]
>>> [desk.follow(("splice", 0, 2, 1, ("strip", 0), ("splice", 0, 2, 1, ("strip", 0), ("strip", 0)))), desk.films(), desk.now().strips, desk.lies("abbbc"), desk.undo(), len(desk)]
[2, ['abc', 'abbc', 'abbbc'], ['abc', 'abbc', 'abbbc'], True, None, 1]
'''

READINGS = '''
>>> from splicedfilms.boxes import Box
>>> from splicedfilms.readings import read_box, read_tree
>>> from splicedfilms.texts import show_box, show_tree
>>> box = Box(["abc", "d"], [("b", "c", "", "ab"), ("d", "", "a", "b")])
>>> told = ("splice", 0, 2, 0, ("strip", 0), ("splice", 1, 1, 1, ("strip", 1), ("strip", 0)))
>>> [show_box(box), read_box(show_box(box)) == box, show_box(Box([], [])), show_tree(told), read_tree(show_tree(told)) == told]
['abc, d; b|c |ab; d| a|b', True, '', 'rule 0 2 0 (strip 0) (rule 1 1 1 (strip 1) (strip 0))', True]
'''


class Examples(unittest.TestCase):
    def check(self, text, number):
        found = doctest.DocTestParser().get_doctest(text, {}, self.id(), None, None)
        told = []
        result = doctest.DocTestRunner(verbose=False).run(found, out=told.append)
        self.assertEqual((result.failed, result.attempted), (0, number), "".join(told))

    def test_boxes(self):
        self.check(BOXES, 5)

    def test_films(self):
        self.check(FILMS, 6)

    def test_seams(self):
        self.check(SEAMS, 4)

    def test_fewest(self):
        self.check(FEWEST, 4)

    def test_tables(self):
        self.check(TABLES, 6)

    def test_questions(self):
        self.check(QUESTIONS, 8)

    def test_compare(self):
        self.check(COMPARE, 6)

    def test_joints(self):
        self.check(JOINTS, 4)

    def test_origins(self):
        self.check(ORIGINS, 5)

    def test_guesses(self):
        self.check(GUESSES, 4)

    def test_desks(self):
        self.check(DESKS, 5)

    def test_texts_and_readings(self):
        self.check(READINGS, 6)


if __name__ == "__main__":
    unittest.main()

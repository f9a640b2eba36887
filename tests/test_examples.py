"""The examples of the document's interface, as they stand there."""

import doctest
import unittest

BOXES = '''
>>> from splicedfilms.boxes import Box, cuts, places, spliced
>>> rule = ("a", "b", "b", "c")
>>> [spliced(rule, "aab", 2, "abcd", 2), cuts(rule, "abab"), places(rule, "abcbc"), cuts(("a", "", "", "a"), "aba")]
['aacd', [1, 3], [2, 4], [1, 3]]
>>> box = Box(["ab", "bc"], [rule])
>>> [box.pictures(), len(box), box.with_rule(("c", "", "", "a")).rules, box.without_strip(0).strips, (box + box).strips]
['abc', 1, [('a', 'b', 'b', 'c'), ('c', '', '', 'a')], ['bc'], ['ab', 'bc', 'ab', 'bc']]
'''

FILMS = '''
>>> from splicedfilms.boxes import Box
>>> from splicedfilms.films import comes, film_of, judge_tree, splices, tree, within
>>> round_box = Box(["abc"], [("b", "c", "a", "b")])
>>> [comes(round_box, "abbbc"), comes(round_box, "abcbc"), within(round_box, 1), judge_tree(round_box, "abbc", ("splice", 0, 2, 1, ("strip", 0), ("strip", 0)))]
[True, False, ['abc', 'abbc'], True]
>>> told = tree(round_box, "abbbc")
>>> [film_of(round_box, told), splices(told), judge_tree(round_box, "abbbc", told), tree(round_box, "ab")]
['abbbc', 2, True, None]
'''


class Examples(unittest.TestCase):
    def check(self, text, number):
        found = doctest.DocTestParser().get_doctest(text, {}, self.id(), None, None)
        told = []
        result = doctest.DocTestRunner(verbose=False).run(found, out=told.append)
        self.assertEqual((result.failed, result.attempted), (0, number), "".join(told))

    def test_boxes(self):
        self.check(BOXES, 5)

    def test_films(self):
        self.check(FILMS, 6)


if __name__ == "__main__":
    unittest.main()

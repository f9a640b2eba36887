"""Trees and seams that are asked for by the thousands: splicedfilms/films.py and splicedfilms/seams.py, and point [7]."""

import time
import unittest

from cases import Case
from naive import boxes_by_chance, fewest_by_rounds, in_order
from splicedfilms.boxes import Box
from splicedfilms.films import comes, film_of, splices, tree, within
from splicedfilms.seams import beyond, reasons, seams, tree_at

# Boxes and films, the number of splices, and how many times as long as the plain work all questions may take. They take
# about a third of this; when the trees were looked for splice by splice, it was twice as much, or nearly so.
LONG = [
    (["zyyyx"] * 4, [("y", "x", "z", "y")], "z" + "y" * 21 + "x", 6, 2.5),
    (["zyyyx"] * 4, [("y", "x", "z", "y")], "z" + "y" * 22 + "x", None, 1.5),
    (["abc"], [("b", "c", "a", "b")], "a" + "b" * 22 + "c", 21, 11),
    (["b", "a"], [("bb", "", "", "a"), ("a", "", "b", "a"), ("b", "", "", "b")], "a" * 21, 60, 24),
    (["aa", "bbba", "ab"], [("a", "b", "b", "a"), ("b", "b", "", "b"), ("b", "", "", "aa")], "a" * 24, 44, 5),
]


def seconds_of_work(work):
    begun = time.process_time()
    work()
    return time.process_time() - begun


def plain_work():
    """Do something whose time tells how fast the machine is: a millisecond, or about so, on one that is."""
    found = {}
    for number in range(10000):
        found[number % 100] = found.get(number % 97, 0) + number
    return found


class Speed(Case):
    def check_speed(self, work, most):
        """Check that something takes at most so many times as long as the plain work, in one of some tries.

        The machine may be busy with other things, which tells on both if they are done one after the other.
        """
        found = []
        while len(found) < 8 and not (found and min(found) < most):
            plain = sum(seconds_of_work(plain_work) for _ in range(20)) / 20
            found.append(seconds_of_work(work) / plain)
        self.assertLess(min(found), most)

    def ask(self, strips, rules, film):
        box = Box(strips, rules)
        comes(box, film)
        tree(box, film)
        for index, at in seams(box, film):
            film_of(box, tree_at(box, film, index, at))
        reasons(box, film)

    def test_long_films(self):
        for strips, rules, film, number, most in LONG:
            told = tree(Box(strips, rules), film)
            self.assertEqual(None if told is None else splices(told), number)
            self.check_speed(lambda: self.ask(strips, rules, film), most)

    def test_rounds_of_boxes(self):
        boxes = []
        for strips, rules in boxes_by_chance(151, 40):
            rules = rules[:5 - len(strips)]
            films = in_order(fewest_by_rounds(strips, rules, 3, 40)[0])[-4:]
            boxes.append((strips, rules, [film for film in films if len(film) <= 24]))

        def rounds():
            for strips, rules, films in boxes:
                for film in films:
                    self.ask(strips, rules, film)
                box = Box(strips, rules)
                within(box, 1)
                beyond(box, 1)

        self.check_speed(rounds, 660)


if __name__ == "__main__":
    unittest.main()

"""From a table back to a box: the rules that it keeps, and the greatest box by which no more comes about."""

from itertools import product

from splicedfilms.boxes import Box
from splicedfilms.checks import check_number, check_rule, check_table
from splicedfilms.counts import texts_between
from splicedfilms.keeping import keeps, splice_states
from splicedfilms.searches import FIRST_ALONE, first_of_two, first_over_bridge
from splicedfilms.states import without_empty


def broken(told, rule):
    """Return the first splice of two films of a table that it does not hold, `None` if it keeps the rule."""
    check_table(told)
    check_rule(rule)
    firsts, seconds = splice_states(told, rule)
    pairs = [[] for _ in told[1]]
    for state, first in firsts.items():
        pairs[state] = [(first, second) for second in seconds]
    return first_over_bridge(told, rule[0] + rule[3], pairs, (False, True))


def kept_rules(told, size):
    """Return the ascending list of all rules, of pieces of at most so many pictures of a table, that it keeps."""
    check_table(told)
    check_number(size, 0)
    return _kept_rules(told, size)


def _kept_rules(told, size):
    pieces = sorted(_texts(told[0], size))
    films = [piece for piece in pieces if piece]
    return [rule for rule in product(films, pieces, pieces, films) if keeps(told, rule)]


def _texts(pictures, size):
    texts = [""]
    longest = [""]
    for _ in range(size):
        longest = [text + picture for text in longest for picture in pictures]
        texts.extend(longest)
    return texts


def greatest_box(told, length, size):
    """Return the box of all films of a table of at most a length, and of all rules of such pieces that it keeps."""
    check_table(told)
    check_number(length, 0)
    check_number(size, 0)
    strips = []
    for many in range(1, length + 1):
        strips.extend(texts_between(told, [0], told[2], many))
    return Box(strips, _kept_rules(told, size))


def unmade(told, length, size):
    """Return the first film of a table that does not come about by its greatest box, `None` if there is none."""
    greatest = greatest_box(told, length, size)
    return first_of_two(without_empty(told), greatest.workings().table(), FIRST_ALONE)

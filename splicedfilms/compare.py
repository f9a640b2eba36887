"""Which films come about by one box and not by another one, and which strips and rules a box needs."""

from splicedfilms.boxes import Box
from splicedfilms.films import comes
from splicedfilms.searches import FIRST_ALONE, JUST_ONE, first_of_two


def alike(one, other):
    """Tell whether the same films come about by two boxes."""
    return first_unlike(one, other) is None


def first_unlike(one, other):
    """Return the first film that comes about by just one of two boxes, `None` if there is none."""
    return first_of_two(one.workings().table(), other.workings().table(), JUST_ONE)


def first_more(one, other):
    """Return the first film that comes about by the one box and not by the other one, `None` if there is none."""
    return first_of_two(one.workings().table(), other.workings().table(), FIRST_ALONE)


def needless_rules(box):
    """Return the ascending list of the rules, by their indexes, without each of which the same films come about."""
    return [index for index in range(len(box)) if alike(box, box.without_rule(index))]


def needless_strips(box):
    """Return the ascending list of the strips, by their indexes, without each of which the same films come about."""
    # If a strip comes about without itself, so does all that comes about with it.
    return [index for index, strip in enumerate(box.strips) if comes(box.without_strip(index), strip)]


def least_boxes(box):
    """Return all (strips, rules), two ascending lists, of which, and of no part of which, the same films come about."""
    strips, rules = box.strips, box.rules
    parts = box.workings().parts()

    def is_alike(part):
        some, others = parts.indexes(part)
        return alike(box, Box([strips[at] for at in some], [rules[at] for at in others]))

    return parts.least(is_alike)


def brings(box, rule):
    """Return the first film that comes about with one rule more and not without it, `None` if there is none."""
    return first_more(box.with_rule(rule), box)

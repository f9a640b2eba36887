"""Tables: the one of a box, and what tables that are handed in hold."""

from splicedfilms.checks import check_film, check_table, copied
from splicedfilms.keeping import keeps
from splicedfilms.searches import JUST_ONE, first_of_two
from splicedfilms.states import holds_text, least_table


def table(box):
    """Return the table of a box."""
    return copied(box.workings().table())


def holds(told, film):
    """Tell whether a table holds a film."""
    check_table(told)
    check_film(film)
    return holds_text(told, film)


def is_closed(box, told):
    """Tell whether a table holds the strips of a box, and with any two films each splice of them by its rules."""
    check_table(told)
    if not all([holds_text(told, strip) for strip in box.strips]):
        return False
    return all([keeps(told, rule) for rule in box.rules])


def judge_table(box, told):
    """Tell whether a table holds just what comes about by a box, and not the empty text."""
    check_table(told)
    return first_of_two(box.workings().table(), told, JUST_ONE) is None


def apart(one, other):
    """Return the first text that just one of two tables holds, `None` if there is none."""
    check_table(one)
    check_table(other)
    return first_of_two(one, other, JUST_ONE)


def least(told):
    """Return the table with as few states as can be that has the same pictures and holds the same texts."""
    check_table(told)
    return least_table(told)

"""Tables: the one of a box, and what tables that are handed in hold."""

from splicedfilms.checks import check_film, check_table, copied
from splicedfilms.searches import JUST_ONE, first_of_two
from splicedfilms.states import holds_text, hopeful, lead, least_table, reached


def table(box):
    """Return the table of a box."""
    return copied(box.kept_table())


def holds(told, film):
    """Tell whether a table holds a film."""
    check_table(told)
    check_film(film)
    return holds_text(told, film)


def is_closed(box, told):
    """Tell whether a table holds the strips of a box, and with any two films each splice of them by its rules."""
    check_table(told)
    if not all([holds_text(told, strip) for strip in box.strips]):
        return False
    pairs = []
    for rule in box.rules:
        pairs.extend(_joined_states(told, rule))
    return _lead_on(told, pairs)


def _joined_states(told, rule):
    # Behind the back of a rule, a splice stands where the first state of a pair is, its second film where the other is.
    front, behind, ahead, back = rule
    hopes = hopeful(told)
    firsts = {}
    seconds = {}
    for state in reached(told):
        cut = lead(told, state, front)
        if lead(told, cut, behind) in hopes:
            firsts[lead(told, cut, back)] = True
        place = lead(told, state, ahead + back)
        if place in hopes:
            seconds[place] = True
    return [(first, second) for first in firsts for second in seconds]


def _lead_on(told, pairs):
    # Tells whether, for each pair, all texts that lead from the second state to an end do so from the first one.
    _, rows, ends = told
    seen = {}
    todo = list(pairs)
    while todo:
        pair = todo.pop()
        first, second = pair
        if first != second and pair not in seen:
            if second in ends and first not in ends:
                return False
            seen[pair] = True
            todo.extend(list(zip(rows[first], rows[second])))
    return True


def judge_table(box, told):
    """Tell whether a table holds just what comes about by a box, and not the empty text."""
    check_table(told)
    return first_of_two(box.kept_table(), told, JUST_ONE) is None


def apart(one, other):
    """Return the first text that just one of two tables holds, `None` if there is none."""
    check_table(one)
    check_table(other)
    return first_of_two(one, other, JUST_ONE)


def least(told):
    """Return the table with as few states as can be that has the same pictures and holds the same texts."""
    check_table(told)
    return least_table(told)

"""Whether tables keep rules: whether they hold each splice of two films that they hold."""

from splicedfilms.states import hopeful, lead, reached


def splice_states(told, rule):
    """Return by what a rule is broken or kept, as ({state: first}, [second]).

    If a text x leads to one of the states, x + front + behind is the beginning of a film of the table, and
    x + front + back leads to `first`. The states `second` are those behind ahead and back in films of the table. So the
    rule is kept exactly if each text that leads from a second state to an end does so from each first one.
    """
    front, behind, ahead, back = rule
    hopes = {state: True for state in hopeful(told)}
    firsts = {}
    seconds = {}
    for state in reached(told):
        cut = lead(told, state, front)
        if lead(told, cut, behind) in hopes:
            firsts[state] = lead(told, cut, back)
        place = lead(told, state, ahead + back)
        if place in hopes:
            seconds[place] = True
    return firsts, list(seconds)


def keeps(told, rule):
    """Tell whether a table holds, with any two films that it holds, each splice of them by a rule."""
    firsts, seconds = splice_states(told, rule)
    rows = told[1]
    ends = {state: True for state in told[2]}
    seen = {}
    todo = [(first, second) for first in firsts.values() for second in seconds]
    while todo:
        pair = todo.pop()
        first, second = pair
        if first != second and pair not in seen:
            if second in ends and first not in ends:
                return False
            seen[pair] = True
            todo.extend(list(zip(rows[first], rows[second])))
    return True

"""First texts that lead to a goal."""

from splicedfilms.states import lead

# What is asked of two tables: whether the first one holds the text, and whether the second one does.
BOTH = ((True, True),)
FIRST_ALONE = ((True, False),)
JUST_ONE = ((True, False), (False, True))


def first_text(starts, ways, is_goal):
    """Return the first text by which some start leads to a goal, `None` if none does.

    `ways(node)` tells the list of the (picture, node) to which a node leads.
    """
    before = {node: None for node in starts}
    # The nodes of a group have one first text; groups are in the order of these texts.
    groups = [starts]
    while groups:
        for group in groups:
            for node in group:
                if is_goal(node):
                    return _text_to(before, node)
        following = []
        for group in groups:
            following.extend(_groups_behind(group, ways, before))
        groups = following
    return None


def _groups_behind(group, ways, before):
    steps = {}
    for node in group:
        for picture, target in ways(node):
            steps.setdefault(picture, []).append((node, target))
    found = []
    for picture in sorted(steps):
        fresh = []
        for node, target in steps[picture]:
            if target not in before:
                before[target] = (node, picture)
                fresh.append(target)
        if fresh:
            found.append(fresh)
    return found


def _text_to(before, node):
    signs = []
    while before[node] is not None:
        node, picture = before[node]
        signs.append(picture)
    return "".join(reversed(signs))


def first_of_two(one, other, wanted):
    """Return the first text of which two tables hold what is wanted, `None` if there is none."""
    pictures = sorted(set(one[0] + other[0]))
    one_ends = {state: True for state in one[2]}
    other_ends = {state: True for state in other[2]}

    def ways(node):
        return [(picture, (lead(one, node[0], picture), lead(other, node[1], picture))) for picture in pictures]

    def is_goal(node):
        return (node[0] in one_ends, node[1] in other_ends) in wanted

    return first_text([(0, 0)], ways, is_goal)


def first_over_bridge(told, bridge, pairs, wanted):
    """Return the first text x + bridge + y by which two states come to what is wanted, `None` if there is none.

    `pairs[state]` lists the (first, second) states behind the bridge if x leads to `state`; y leads on from both of
    them. What is wanted is whether the first one comes to an end, and whether the second one does.
    """
    pictures, rows, _ = told
    ends = {state: True for state in told[2]}
    # A node is (what is left of the bridge, the state of x, `None`), or behind the bridge ("", first, second).
    arrivals = [[("", state, None)] + _at_bridge(bridge, state, pairs[state]) for state in range(len(rows))]

    def ways(node):
        rest, state, second = node
        if rest:
            return [(rest[0], entry) for entry in _at_bridge(rest[1:], state, pairs[state])]
        if second is None:
            return [(picture, entry) for picture, after in zip(pictures, rows[state]) for entry in arrivals[after]]
        return [(picture, ("", lead(told, state, picture), lead(told, second, picture))) for picture in pictures]

    def is_goal(node):
        rest, state, second = node
        return rest == "" and second is not None and (state in ends, second in ends) == wanted

    return first_text(arrivals[0], ways, is_goal)


def _at_bridge(rest, state, pairs):
    if rest and pairs:
        return [(rest, state, None)]
    return [("", first, second) for first, second in pairs]

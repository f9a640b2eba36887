"""The states of tables: which ones are wanted, where texts lead, and the least table.

All functions take tuples that are tables and only read them.
"""

# The state of a text with other pictures than those of the table.
NOWHERE = -1


def lead(told, state, text):
    """Return the state to which a text leads from a state."""
    pictures, rows, _ = told
    for picture in text:
        column = pictures.find(picture)
        if state == NOWHERE or column < 0:
            return NOWHERE
        state = rows[state][column]
    return state


def holds_text(told, text):
    """Tell whether a table holds a text, a film or the empty one."""
    return lead(told, 0, text) in told[2]


def reached(told):
    """Return the list of the states to which some text leads, in the order of the first texts that lead to them."""
    rows = told[1]
    order = [0]
    seen = {0: True}
    at = 0
    while at < len(order):
        for state in rows[order[at]]:
            if state not in seen:
                seen[state] = True
                order.append(state)
        at += 1
    return order


def hopeful(told):
    """Return the ascending list of the states from which some text leads to an end."""
    _, rows, ends = told
    sources = [[] for _ in rows]
    for source, row in enumerate(rows):
        for state in row:
            sources[state].append(source)
    seen = {}
    todo = list(ends)
    while todo:
        state = todo.pop()
        if state not in seen:
            seen[state] = True
            todo.extend(sources[state])
    return sorted(seen)


def least_table(told):
    """Return the table with as few states as can be that has the same pictures and holds the same texts."""
    pictures, rows, ends = told
    order = reached(told)
    kinds = _kinds(told, order)
    # The first text that leads to a kind is the one of its first state, so the kinds stand in their order too.
    firsts = {}
    for state in order:
        firsts.setdefault(kinds[state], state)
    least_rows = [[kinds[after] for after in rows[first]] for first in firsts.values()]
    return pictures, least_rows, [kind for kind, first in firsts.items() if first in ends]


def _kinds(told, order):
    # States are of one kind until it shows that some text leads just one of them to an end.
    _, rows, ends = told
    kinds = {state: int(state in ends) for state in order}
    number = 0
    while True:
        signs = {}
        finer = {}
        for state in order:
            sign = tuple([kinds[state]] + [kinds[after] for after in rows[state]])
            finer[state] = signs.setdefault(sign, len(signs))
        kinds = finer
        if len(signs) == number:
            return kinds
        number = len(signs)


def table_of_web(web, pictures):
    """Return the least table of the texts that are read in a web."""
    # A state is the spots at which ways stand, but for those from which no way leads to an end.
    numbers = {web.firsts: 0}
    states = [web.firsts]
    rows = []
    while len(rows) < len(states):
        spots = states[len(rows)]
        row = [web.forth(spots, picture) & web.after for picture in pictures]
        for after in row:
            if after not in numbers:
                numbers[after] = len(states)
                states.append(after)
        rows.append([numbers[after] for after in row])
    return least_table((pictures, rows, [number for number, spots in enumerate(states) if spots & web.lasts]))


def table_of_piece(piece, pictures):
    """Return the table of all texts of these pictures in which a piece stands."""
    # The state tells with how many pictures of the piece the text ends; at last it stays.
    rows = [[_begun(piece, piece[:size] + picture) for picture in pictures] for size in range(len(piece))]
    rows.append([len(piece) for _ in pictures])
    return pictures, rows, [len(piece)]


def _begun(piece, text):
    return max([size for size in range(len(text) + 1) if text.endswith(piece[:size])])


def without_empty(told):
    """Return a table that holds the same films, and not the empty text."""
    # No text leads back to the new state 0, so the films that lead to the old one stay.
    pictures, rows, ends = told
    moved = [[state + 1 for state in row] for row in rows]
    return pictures, [list(moved[0])] + moved, [state + 1 for state in ends]

"""How many texts of a length lead from state to state of a table, and which ones."""

from splicedfilms.states import hopeful


def counts_of_ends(told):
    """Return by states how many texts of no picture lead from them to an end."""
    _, rows, ends = told
    return [int(state in ends) for state in range(len(rows))]


def longer_counts(told, counts):
    """Return by states how many texts lead from them to an end that are by one picture longer than the counted ones."""
    return [sum([counts[state] for state in row]) for row in told[1]]


def counts_to(told, length):
    """Return the list of these counts for all lengths from 0 to this one."""
    counts = [counts_of_ends(told)]
    for _ in range(length):
        counts.append(longer_counts(told, counts[-1]))
    return counts


def lengths_end(told):
    """Return the least number from which on no text is so long that a table holds, `None` if it holds endless many."""
    hopes = {state: True for state in hopeful(told)}
    states = [0] if 0 in hopes else []
    length = 0
    while states:
        # A way of as many pictures as there are states comes to some state twice, and so may go round there.
        if length == len(told[1]):
            return None
        states = sorted({after for state in states for after in told[1][state] if after in hopes})
        length += 1
    return length


def texts_between(told, starts, goals, length):
    """Return the ascending list of the texts of a length that lead from one of the starts to one of the goals."""
    pictures, rows, _ = told
    near = [{state: True for state in goals}]
    for _ in range(length):
        near.append({state: True for state, row in enumerate(rows) if any([after in near[-1] for after in row])})
    found = [("", [state for state in starts if state in near[length]])]
    for left in reversed(range(length)):
        found = [
            (text + picture, sorted({rows[state][column] for state in states if rows[state][column] in near[left]}))
            for text, states in found
            for column, picture in enumerate(pictures)
        ]
        found = [(text, states) for text, states in found if states]
    return [text for text, states in found if states]


def count_rest(told, length, modulus):
    """Return the rest, by a modulus, of the number of the texts of a length that a table holds."""
    rows = told[1]
    # How many texts lead from state to state, of as many pictures as the bit of the length has worth.
    steps = [[row.count(state) % modulus for state in range(len(rows))] for row in rows]
    counts = counts_of_ends(told)
    while length > 0:
        if length % 2 == 1:
            counts = [_product_rest(step, counts, modulus) for step in steps]
        columns = [list(column) for column in zip(*steps)]
        steps = [[_product_rest(step, column, modulus) for column in columns] for step in steps]
        length //= 2
    return counts[0] % modulus


def _product_rest(step, column, modulus):
    return sum([one * other for one, other in zip(step, column)]) % modulus

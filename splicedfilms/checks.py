"""What is a film, a piece, a rule and a table, and the errors of what is none."""

from splicedfilms.errors import InvalidFilm, InvalidNumber, InvalidPiece, InvalidRule, InvalidTable

PICTURES = "abcdefghijklmnopqrstuvwxyz"


def is_piece(text):
    """Tell whether a text is a piece, perhaps the empty one."""
    # What is left without the pictures at both ends begins with a sign that is none.
    return text.strip(PICTURES) == ""


def is_film(text):
    """Tell whether a text is a film."""
    return len(text) > 0 and is_piece(text)


def check_film(film):
    """Raise `InvalidFilm` if a text is no film."""
    if not is_film(film):
        raise InvalidFilm(film)


def check_piece(piece):
    """Raise `InvalidPiece` if a text is no piece."""
    if not is_piece(piece):
        raise InvalidPiece(piece)


def check_rule(rule):
    """Raise the first error of a rule, in the order in which `Box` lists them."""
    if len(rule) != 4:
        raise InvalidRule(rule)
    for piece in rule:
        check_piece(piece)
    if rule[0] == "" or rule[3] == "":
        raise InvalidRule(rule)


def check_number(number, least):
    """Raise `InvalidNumber` if a number is too small."""
    if number < least:
        raise InvalidNumber(number)


def is_table(told):
    """Tell whether a tuple is a table."""
    if len(told) != 3:
        return False
    pictures, rows, ends = told
    if not is_piece(pictures) or not _ascends(pictures) or len(rows) == 0:
        return False
    for row in rows:
        if len(row) != len(pictures) or not _are_states(row, rows):
            return False
    return _ascends(ends) and _are_states(ends, rows)


def _ascends(things):
    return all([low < high for low, high in zip(things, things[1:])])


def _are_states(numbers, rows):
    return all([0 <= number < len(rows) for number in numbers])


def check_table(told):
    """Raise `InvalidTable` if a tuple is no table."""
    if not is_table(told):
        raise InvalidTable(copied(told))


def copied(told):
    """Return a thing with new lists in it, each of which stands in one place alone."""
    if isinstance(told, list):
        return [copied(part) for part in told]
    if isinstance(told, tuple):
        return tuple([copied(part) for part in told])
    return told

"""What is a film, a piece and a rule, and the errors of what is none."""

from splicedfilms.errors import InvalidFilm, InvalidPiece, InvalidRule

PICTURES = "abcdefghijklmnopqrstuvwxyz"


def is_piece(text):
    """Tell whether a text is a piece, perhaps the empty one."""
    return all([sign in PICTURES for sign in text])


def is_film(text):
    """Tell whether a text is a film."""
    return len(text) > 0 and is_piece(text)


def check_film(film):
    """Raise `InvalidFilm` if a text is no film."""
    if not is_film(film):
        raise InvalidFilm(film)


def check_piece(piece):
    """Raise `InvalidPiece` if a text is no piece."""
    if not is_piece(piece):
        raise InvalidPiece(piece)


def check_rule(rule):
    """Raise the first error of a rule, in the order in which `Box` lists them."""
    if len(rule) != 4:
        raise InvalidRule(rule)
    for piece in rule:
        check_piece(piece)
    if rule[0] == "" or rule[3] == "":
        raise InvalidRule(rule)

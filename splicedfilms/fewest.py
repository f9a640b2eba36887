"""The fewest splices by which films come about."""

from splicedfilms.checks import check_film, check_number, check_piece
from splicedfilms.webs import cheapest, read_on


def fewest(box, film):
    """Return the least number of splices by which a film comes about, `None` if it does not."""
    check_film(film)
    web = box.web()
    return _cost(read_on(web, web.begun(), film), web.ended())


def fewest_with(box, piece):
    """Return the least number of splices of all films that have a piece, `None` if none has."""
    check_piece(piece)
    web = box.web()
    return _cost(read_on(web, web.before, piece), web.after)


def fewest_long(box, length):
    """Return the least number of splices of all films of a length, `None` if there is none."""
    check_number(length, 0)
    web = box.web()
    ways = web.begun()
    for _ in range(length):
        ways = web.forth_by_any(ways)
    return _cost(ways, web.ended())


def _cost(ways, near):
    best = cheapest(ways, near)
    return None if best is None else best[0]

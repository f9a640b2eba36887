"""The fewest splices by which films come about."""

from splicedfilms.checks import check_film, check_number, check_piece


def fewest(box, film):
    """Return the least number of splices by which a film comes about, `None` if it does not."""
    check_film(film)
    net = box.workings().net()
    return net.joined(net.read_on(net.begun, film)[-1], net.ended)


def fewest_with(box, piece):
    """Return the least number of splices of all films that have a piece, `None` if none has."""
    check_piece(piece)
    net = box.workings().net()
    return net.joined(net.read_on(net.before, piece)[-1], net.after)


def fewest_long(box, length):
    """Return the least number of splices of all films of a length, `None` if there is none."""
    check_number(length, 0)
    net = box.workings().net()
    ways = net.begun
    for _ in range(length):
        ways = net.one_more(ways)
    return net.joined(ways, net.ended)

"""Where films may have been spliced last, and what they need to come about."""

from splicedfilms.checks import check_film
from splicedfilms.errors import NoSplice, UnknownRule
from splicedfilms.films import comes, within
from splicedfilms.questions import film_at, rank


def seams(box, film):
    """Return the ascending list of the (index, at) of all splices with which some tree of a film ends."""
    check_film(film)
    return box.workings().web().seams(box.rules, film)


def tree_at(box, film, index, at):
    """Return a tree of a film with this last splice, of as few splices as can be."""
    check_film(film)
    if not 0 <= index < len(box):
        raise UnknownRule(index)
    told = box.workings().routes().tree_over(film, index, at)
    if told is None:
        raise NoSplice(at)
    return told


def reasons(box, film):
    """Return the list of all (strips, rules) by which alone a film comes about, and by no part of which it does."""
    check_film(film)
    if not comes(box, film):
        return []
    net = box.workings().lots()
    lot = net.joined(net.read_on(net.begun, film)[-1], net.ended)
    return box.workings().parts().least(lambda part: lot >> part & 1 == 1)


def beyond(box, most):
    """Return the first film that comes about by no tree of at most so many splices, `None` if there is none."""
    known = within(box, most)
    # The rank of a film is its place in this list, unless a film that is not in the list is ahead of it.
    low, high = 0, len(known)
    while low < high:
        middle = (low + high) // 2
        if rank(box, known[middle]) == middle:
            low = middle + 1
        else:
            high = middle
    return film_at(box, low)

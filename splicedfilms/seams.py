"""Where films may have been spliced last, and what they need to come about."""

from splicedfilms.checks import check_film
from splicedfilms.errors import NoSplice, UnknownRule
from splicedfilms.films import comes, tree, within
from splicedfilms.parts import least_parts
from splicedfilms.questions import film_at, rank
from splicedfilms.webs import seam_plans


def seams(box, film):
    """Return the ascending list of the (index, at) of all splices with which some tree of a film ends."""
    check_film(film)
    return sorted(seam_plans(box.web(), box.rules, film))


def tree_at(box, film, index, at):
    """Return a tree of a film with this last splice, of as few splices as can be."""
    check_film(film)
    rules = box.rules
    if not 0 <= index < len(rules):
        raise UnknownRule(index)
    plans = seam_plans(box.web(), rules, film)
    if (index, at) not in plans:
        raise NoSplice(at)
    _, first, second, place = plans[(index, at)]
    return "splice", index, at, place, tree(box, first), tree(box, second)


def reasons(box, film):
    """Return the list of all (strips, rules) by which alone a film comes about, and by no part of which it does."""
    check_film(film)
    return least_parts(box, lambda lesser: comes(lesser, film))


def beyond(box, most):
    """Return the first film that comes about by no tree of at most so many splices, `None` if there is none."""
    known = within(box, most)
    # The rank of a film is its place in this list, unless a film that is not in the list is ahead of it.
    low, high = 0, len(known)
    while low < high:
        middle = (low + high) // 2
        if rank(box, known[middle]) == middle:
            low = middle + 1
        else:
            high = middle
    return film_at(box, low)

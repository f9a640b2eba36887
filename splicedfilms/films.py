"""Which films come about by a box, and the trees that tell how."""

from splicedfilms.boxes import cuts, places, spliced
from splicedfilms.checks import check_film, check_number
from splicedfilms.errors import NoSplice, UnknownRule, UnknownStrip
from splicedfilms.trees import fold
from splicedfilms.webs import reads, seam_plans


def comes(box, film):
    """Tell whether a film comes about by a box."""
    check_film(film)
    return reads(box.web(), film)


def tree(box, film):
    """Return a tree of fewest splices by which a film comes about, `None` if it does not."""
    check_film(film)
    if not reads(box.web(), film):
        return None
    return _tree_of_plans(box.strips, _last_splices(box, film), film)


def _last_splices(box, film):
    # {film: (cost, index, cut, place, first, second)} of all films of a cheapest tree that are no strips.
    web, rules, strips = box.web(), box.rules, box.strips
    found = {}
    todo = [film]
    while todo:
        part = todo.pop()
        if part not in strips and part not in found:
            plans = seam_plans(web, rules, part)
            index, cut = min(plans, key=lambda seam: plans[seam][0])
            cost, first, second, place = plans[(index, cut)]
            found[part] = (cost, index, cut, place, first, second)
            todo.extend([first, second])
    return found


def _tree_of_plans(strips, found, film):
    told = {strip: ("strip", strips.index(strip)) for strip in strips}
    # Both films of a splice cost less than it, so their trees are there when they are asked for.
    for _, part in sorted([(found[part][0], part) for part in found]):
        _, index, cut, place, first, second = found[part]
        told[part] = ("splice", index, cut, place, told[first], told[second])
    return told[film]


def film_of(box, told):
    """Return the film that a tree tells."""
    strips, rules = box.strips, box.rules

    def strip_of(index):
        if not 0 <= index < len(strips):
            raise UnknownStrip(index)
        return strips[index]

    def splice_of(numbers, film, other):
        index, cut, place = numbers
        if not 0 <= index < len(rules):
            raise UnknownRule(index)
        return spliced(rules[index], film, cut, other, place)

    return fold(told, strip_of, splice_of)


def splices(told):
    """Return the number of splices of a tree."""
    return fold(told, lambda index: 0, lambda numbers, first, second: 1 + first + second)


def judge_tree(box, film, told):
    """Tell whether a tree tells how a film comes about."""
    check_film(film)
    try:
        return film_of(box, told) == film
    except (UnknownStrip, UnknownRule, NoSplice):
        return False


def within(box, most):
    """Return the list of the films that come about by at most so many splices, in their order."""
    check_number(most, 0)
    rules = box.rules
    known = {}
    seen = [({}, {}) for _ in rules]
    # By the fewest splices of the films, by the rules.
    parts = []
    deepest = 0
    # Films of which none needs more than `deepest` splices make none that needs more than twice as many and one.
    while len(parts) <= most and len(parts) <= 2 * deepest + 1:
        fresh = _unseen(_joined(parts) if parts else box.strips, known)
        if fresh:
            deepest = len(parts)
        parts.append([_parts_by(rule, fresh, seen[index]) for index, rule in enumerate(rules)])
    return sorted(sorted(known), key=len)


def _unseen(texts, seen):
    fresh = []
    for text in texts:
        if text not in seen:
            seen[text] = True
            fresh.append(text)
    return fresh


def _parts_by(rule, films, seen):
    # The same beginning or end of another film would make the same splices again.
    beginnings = [film[:cut] for film in films for cut in cuts(rule, film)]
    endings = [film[place:] for film in films for place in places(rule, film)]
    return _unseen(beginnings, seen[0]), _unseen(endings, seen[1])


def _joined(parts):
    # Both films of a splice need together one splice less than it.
    joined = []
    for firsts, seconds in zip(parts, parts[::-1]):
        for (beginnings, _), (_, endings) in zip(firsts, seconds):
            joined.extend([beginning + ending for beginning in beginnings for ending in endings])
    return joined

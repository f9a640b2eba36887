"""Which films come about by a box, and the trees that tell how."""

from splicedfilms.boxes import cuts, places, splice_of_films
from splicedfilms.checks import check_film, check_number
from splicedfilms.errors import NoSplice, UnknownRule, UnknownStrip
from splicedfilms.trees import fold


def comes(box, film):
    """Tell whether a film comes about by a box."""
    check_film(film)
    return box.workings().web().reads(film)


def tree(box, film):
    """Return a tree of fewest splices by which a film comes about, `None` if it does not."""
    if not comes(box, film):
        return None
    return box.workings().routes().tree(film)


def film_of(box, told):
    """Return the film that a tree tells."""
    strips, rules = box.strips, box.rules

    def strip_of(index):
        if not 0 <= index < len(strips):
            raise UnknownStrip(index)
        return strips[index]

    def splice_of(numbers, film, other):
        index, cut, place = numbers
        if not 0 <= index < len(rules):
            raise UnknownRule(index)
        return splice_of_films(rules[index], film, cut, other, place)

    return fold(told, strip_of, splice_of)


def splices(told):
    """Return the number of splices of a tree."""
    return fold(told, lambda index: 0, lambda numbers, first, second: 1 + first + second)


def judge_tree(box, film, told):
    """Tell whether a tree tells how a film comes about."""
    check_film(film)
    try:
        return film_of(box, told) == film
    except (UnknownStrip, UnknownRule, NoSplice):
        return False


def within(box, most):
    """Return the list of the films that come about by at most so many splices, in their order."""
    check_number(most, 0)
    rules = box.rules
    known = {}
    seen = [({}, {}) for _ in rules]
    # By the fewest splices of the films, by the rules.
    parts = []
    deepest = 0
    # Films of which none needs more than `deepest` splices make none that needs more than twice as many and one.
    while len(parts) <= most and len(parts) <= 2 * deepest + 1:
        fresh = _unseen(_joined(parts) if parts else box.strips, known)
        if fresh:
            deepest = len(parts)
        parts.append([_parts_by(rule, fresh, seen[index]) for index, rule in enumerate(rules)])
    return sorted(sorted(known), key=len)


def _unseen(texts, seen):
    fresh = []
    for text in texts:
        if text not in seen:
            seen[text] = True
            fresh.append(text)
    return fresh


def _parts_by(rule, films, seen):
    # The same beginning or end of another film would make the same splices again.
    beginnings = [film[:cut] for film in films for cut in cuts(rule, film)]
    endings = [film[place:] for film in films for place in places(rule, film)]
    return _unseen(beginnings, seen[0]), _unseen(endings, seen[1])


def _joined(parts):
    # Both films of a splice need together one splice less than it.
    joined = []
    for firsts, seconds in zip(parts, parts[::-1]):
        for (beginnings, _), (_, endings) in zip(firsts, seconds):
            joined.extend([beginning + ending for beginning in beginnings for ending in endings])
    return joined

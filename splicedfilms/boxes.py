"""Boxes of strips and rules, and single splices."""

from splicedfilms.checks import check_film, check_rule
from splicedfilms.errors import NoSplice, UnknownRule, UnknownStrip
from splicedfilms.workings import Workings


class Box:
    """A box of strips and rules; it never changes."""

    def __init__(self, strips, rules):
        for strip in strips:
            check_film(strip)
        for rule in rules:
            check_rule(rule)
        self._strips = list(strips)
        self._rules = list(rules)
        self._workings = Workings(self._strips, self._rules)

    @property
    def strips(self):
        """The list of the strips."""
        return list(self._strips)

    @property
    def rules(self):
        """The list of the rules."""
        return list(self._rules)

    def pictures(self):
        """Return the text of the unlike pictures of the strips and rules, ascending."""
        return self._workings.pictures()

    def with_strip(self, strip):
        """Return the box with one more strip at the end."""
        return Box(self._strips + [strip], self._rules)

    def with_rule(self, rule):
        """Return the box with one more rule at the end."""
        return Box(self._strips, self._rules + [rule])

    def without_strip(self, index):
        """Return the box without one strip."""
        if not 0 <= index < len(self._strips):
            raise UnknownStrip(index)
        return Box(self._strips[:index] + self._strips[index + 1:], self._rules)

    def without_rule(self, index):
        """Return the box without one rule."""
        if not 0 <= index < len(self._rules):
            raise UnknownRule(index)
        return Box(self._strips, self._rules[:index] + self._rules[index + 1:])

    def workings(self):
        """Return what the program works out of the box."""
        return self._workings

    def __add__(self, other):
        if not isinstance(other, Box):
            return NotImplemented
        return Box(self._strips + other._strips, self._rules + other._rules)

    def __len__(self):
        return len(self._rules)

    def __eq__(self, other):
        return isinstance(other, Box) and self._strips == other._strips and self._rules == other._rules


def spliced(rule, film, cut, other, place):
    """Return the splice of a film at a cut and another one at a place."""
    check_rule(rule)
    check_film(film)
    check_film(other)
    return splice_of_films(rule, film, cut, other, place)


def splice_of_films(rule, film, cut, other, place):
    """Return what `spliced` does, of a rule and films that are checked already."""
    if not _stand_at(rule[0], rule[1], film, cut):
        raise NoSplice(cut)
    if not _stand_at(rule[2], rule[3], other, place):
        raise NoSplice(place)
    return film[:cut] + other[place:]


def cuts(rule, film):
    """Return the ascending list of the cuts at which a film may be the first one of a splice."""
    check_rule(rule)
    check_film(film)
    return _seats(rule[0], rule[1], film)


def places(rule, film):
    """Return the ascending list of the cuts at which a film may be the second one of a splice."""
    check_rule(rule)
    check_film(film)
    return _seats(rule[2], rule[3], film)


def _seats(left, right, film):
    return [cut for cut in range(len(film) + 1) if _stand_at(left, right, film, cut)]


def _stand_at(left, right, film, cut):
    # A cut below 0 would be read as one from the end.
    if not 0 <= cut <= len(film):
        return False
    return film.endswith(left, 0, cut) and film.startswith(right, cut)

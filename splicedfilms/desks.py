"""Cutting desks, led splice by splice."""

from splicedfilms.boxes import Box, cuts, places, splice_of_films
from splicedfilms.checks import check_film
from splicedfilms.errors import NothingToUndo, UnknownRule, UnknownStrip
from splicedfilms.films import film_of
from splicedfilms.trees import fold


class Desk:
    """A cutting desk with the strips of a box."""

    def __init__(self, box):
        self._box = box
        # By the numbers of the films: the films, and the trees by which they came first; and the numbers by films.
        self._films = []
        self._trees = []
        self._numbers = {}
        # By the calls that may be taken back: how many films lay there ahead of them.
        self._calls = []
        for index, strip in enumerate(box.strips):
            self._put(strip, ("strip", index))

    def _put(self, film, told):
        if film not in self._numbers:
            self._numbers[film] = len(self._films)
            self._films.append(film)
            self._trees.append(told)
        return self._numbers[film]

    def __call__(self, index, film, cut, other, place):
        """Splice two films, told by their numbers, by the rule with an index; return the number of the splice."""
        lying = len(self._films)
        number = self._splice(index, film, cut, other, place)
        self._calls.append(lying)
        return number

    def _splice(self, index, film, cut, other, place):
        rules = self._box.rules
        if not 0 <= index < len(rules):
            raise UnknownRule(index)
        self._check_number(film)
        self._check_number(other)
        made = splice_of_films(rules[index], self._films[film], cut, self._films[other], place)
        return self._put(made, ("splice", index, cut, place, self._trees[film], self._trees[other]))

    def _check_number(self, film):
        if not 0 <= film < len(self._films):
            raise UnknownStrip(film)

    def films(self):
        """Return the list of the films on the desk, in the order in which they came."""
        return list(self._films)

    def tree_of(self, film):
        """Return the tree by which the film with a number came first, with the indexes of the strips of the box."""
        self._check_number(film)
        return self._trees[film]

    def now(self):
        """Return the box with the films on the desk as its strips, and the rules of the box."""
        return Box(self._films, self._box.rules)

    def follow(self, told):
        """Lead the desk by a tree of `now()`, as one call; return the number of its film."""
        # Whatever is wrong with the tree shows here, ahead of all that is done.
        film_of(self.now(), told)
        lying = len(self._films)
        number = fold(told, lambda index: index, self._splice_told)
        self._calls.append(lying)
        return number

    def _splice_told(self, numbers, film, other):
        index, cut, place = numbers
        return self._splice(index, film, cut, other, place)

    def lies(self, film):
        """Tell whether a film lies on the desk."""
        check_film(film)
        return film in self._numbers

    def can(self):
        """Return the ascending list of all (index, film, cut, other, place) of calls that bring a new film now."""
        found = []
        for index, rule in enumerate(self._box.rules):
            ends = [(at, place, film[place:]) for at, film in enumerate(self._films) for place in places(rule, film)]
            for at, film in enumerate(self._films):
                for cut in cuts(rule, film):
                    begun = film[:cut]
                    fresh = [(other, place) for other, place, end in ends if begun + end not in self._numbers]
                    found.extend([(index, at, cut, other, place) for other, place in fresh])
        return found

    def undo(self):
        """Take back the last call, also one that brought nothing."""
        if not self._calls:
            raise NothingToUndo(0)
        many = self._calls.pop()
        for film in self._films[many:]:
            del self._numbers[film]
        del self._films[many:]
        del self._trees[many:]

    def __len__(self):
        return len(self._films)

    def __eq__(self, other):
        return isinstance(other, Desk) and self._box == other._box and self._films == other._films

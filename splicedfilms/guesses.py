"""Which rules fit what was seen, and which film would tell more."""

from itertools import combinations

from splicedfilms.boxes import Box
from splicedfilms.checks import check_film, check_rule
from splicedfilms.compare import first_unlike
from splicedfilms.films import comes


def fitting(box, menu, seen, unseen):
    """Return all sets of rules of a menu with which all seen films come about by a box, and no unseen one.

    They are ascending lists of indexes in the menu, by their number, then as lists.
    """
    return [chosen for chosen, _ in _fitting_boxes(box, menu, seen, unseen)]


def telling(box, menu, seen, unseen):
    """Return the first film that comes about with some of these sets and with others not, `None` if there is none."""
    boxes = [wider for _, wider in _fitting_boxes(box, menu, seen, unseen)]
    # A film that parts any two of the boxes parts one of them from the first box.
    films = [first_unlike(boxes[0], other) for other in boxes[1:]]
    return min([film for film in films if film is not None], key=lambda film: (len(film), film), default=None)


def _fitting_boxes(box, menu, seen, unseen):
    for rule in menu:
        check_rule(rule)
    for film in list(seen) + list(unseen):
        check_film(film)
    found = []
    for size in range(len(menu) + 1):
        for chosen in combinations(range(len(menu)), size):
            wider = Box(box.strips, box.rules + [menu[index] for index in chosen])
            if all([comes(wider, film) for film in seen]) and not any([comes(wider, film) for film in unseen]):
                found.append((list(chosen), wider))
    return found

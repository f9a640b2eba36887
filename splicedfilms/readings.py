"""Boxes and trees read from their texts.

Both are read without asking whether each sign stands where it must, and then shown again: only a text that is shown as
it was read is the text of what was read.
"""

from splicedfilms.boxes import Box
from splicedfilms.errors import InvalidFilm, InvalidPiece, InvalidRule, Unreadable
from splicedfilms.texts import show_box, show_tree


def read_box(text):
    """Return the box with a text."""
    shown, *shown_rules = text.split("; ")
    strips = shown.split(", ") if shown else []
    rules = [tuple(rule.replace("|", " ").split(" ")) for rule in shown_rules]
    box = _box_of(strips, rules)
    if box is None or show_box(box) != text:
        raise Unreadable(text)
    return box


def _box_of(strips, rules):
    try:
        return Box(strips, rules)
    except (InvalidFilm, InvalidPiece, InvalidRule):
        return None


def read_tree(text):
    """Return the tree with a text."""
    told = _tree_of(text.replace("(", "").replace(")", "").split(" "))
    if told is None or show_tree(told) != text:
        raise Unreadable(text)
    return told


def _tree_of(words):
    # Read from the end on, so that what belongs to a word is read already, and the next thing is at the end.
    things = []
    for word in reversed(words):
        if word == "strip" and _are_numbers(things[-1:], 1):
            things.append(("strip", things.pop()))
        elif word == "rule" and _are_numbers(things[-3:], 3) and _are_trees(things[-5:-3], 2):
            second, first, place, cut, index = things[-5:]
            del things[-5:]
            things.append(("splice", index, cut, place, first, second))
        elif word.isdecimal() and len(word) <= 4:
            things.append(int(word))
        else:
            return None
    return things[0] if _are_trees(things, 1) else None


def _are_numbers(things, many):
    return len(things) == many and all([isinstance(thing, int) for thing in things])


def _are_trees(things, many):
    return len(things) == many and all([isinstance(thing, tuple) for thing in things])

"""Boxes and trees as texts."""

from splicedfilms.trees import fold


def show_box(box):
    """Return the text of a box."""
    rules = [f"; {front}|{behind} {ahead}|{back}" for front, behind, ahead, back in box.rules]
    return ", ".join(box.strips) + "".join(rules)


def show_tree(told):
    """Return the text of a tree."""
    return fold(told, lambda index: f"strip {index}", _splice_text)


def _splice_text(numbers, first, second):
    index, cut, place = numbers
    return f"rule {index} {cut} {place} ({first}) ({second})"

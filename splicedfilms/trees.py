"""What comes of trees, worked out from their strips on."""


def fold(told, of_strip, of_splice):
    """Return what comes of a tree; the first tree of a splice is worked out ahead of the second one.

    Of a strip comes `of_strip(index)`. Of a splice comes `of_splice(numbers, first, second)`, by its index and both of
    its cuts, and by what comes of its trees.
    """
    found = []
    # Trees may be too deep for calls of calls: a splice comes up again when what comes of its trees is at the end.
    todo = [(told, False)]
    while todo:
        part, is_ready = todo.pop()
        if part[0] == "strip":
            found.append(of_strip(part[1]))
        elif is_ready:
            second = found.pop()
            first = found.pop()
            found.append(of_splice(part[1:4], first, second))
        else:
            todo.extend([(part, True), (part[5], False), (part[4], False)])
    return found[0]

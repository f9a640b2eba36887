"""Parts of boxes: some of the strips and some of the rules.

A part is a number whose bits tell what it has: the lowest ones the strips, those above them the rules. So the number of
a part is less than those of all parts that have more.
"""

from splicedfilms.boxes import Box


def least_parts(box, fits):
    """Return all (strips, rules), two ascending lists of indexes, that fit, and no part of which fits.

    `fits(lesser)` tells whether a lesser box fits; with more strips and rules a box that fits must still fit.
    """
    bits = [1 << at for at in range(len(box.strips) + len(box))]
    fitting = {}
    found = []
    for part in range(1 << len(bits)):
        if any([part & bit and part ^ bit in fitting for bit in bits]):
            fitting[part] = True
        elif fits(_lesser_box(box, part)):
            fitting[part] = True
            found.append(_indexes(box, part))
    return sorted(found, key=lambda indexes: (len(indexes[0]) + len(indexes[1]), indexes))


def _lesser_box(box, part):
    strips, rules = _indexes(box, part)
    return Box([box.strips[at] for at in strips], [box.rules[at] for at in rules])


def _indexes(box, part):
    many = len(box.strips)
    strips = [at for at in range(many) if part >> at & 1]
    return strips, [at for at in range(len(box)) if part >> (many + at) & 1]

"""Parts of a box: some of its strips and some of its rules.

A part is a number whose bits tell what it has: the lowest ones the strips, those above them the rules. So the number of
a part is less than those of all parts that have more. A lot of parts is a number whose bits tell which parts are in it.
"""


class Parts:
    """The parts of a box of so many strips, with the rules, told by their indexes, that it may need.

    It is a measure of nets too: the worth of a way is the lot of the parts that have all strips and rules of the way.
    """

    def __init__(self, many, rules):
        self._many = many
        self._rules = rules
        self._size = many + len(rules)

    def of_picture(self):
        """Return the lot of all parts."""
        return (1 << (1 << self._size)) - 1

    def of_strip(self, index):
        """Return the lot of the parts that have a strip."""
        return self._lot(index)

    def of_rule(self, index):
        """Return the lot of the parts that have a rule."""
        return self._lot(self._many + self._rules.index(index)) if index in self._rules else 0

    def _lot(self, at):
        # Of the parts without any of the things from this one on, and with this one alone of them; then twice as many,
        # without and with one thing more, until it is all things.
        lot = ((1 << (1 << at)) - 1) << (1 << at)
        for more in range(at + 1, self._size):
            lot |= lot << (1 << more)
        return lot

    def both(self, one, other):
        """Return the lot of the parts that are in both lots."""
        return one & other

    def best(self, one, other):
        """Return the lot of the parts that are in one of the lots."""
        return one | other

    def indexes(self, part):
        """Return the strips and the rules of a part, as two ascending lists of indexes."""
        strips = [at for at in range(self._many) if part >> at & 1]
        return strips, [index for at, index in enumerate(self._rules) if part >> (self._many + at) & 1]

    def least(self, fits):
        """Return all (strips, rules) of parts that fit, and no part of which fits, by their sizes, then as tuples.

        `fits(part)` tells whether a part fits; with more strips and rules a part that fits must still fit.
        """
        bits = [1 << at for at in range(self._size)]
        everything = (1 << self._size) - 1
        needed = sum([bit for bit in bits if not fits(everything ^ bit)])
        fitting = {}
        found = []
        for part in range(1 << self._size):
            if any([part & bit and part ^ bit in fitting for bit in bits]):
                fitting[part] = True
            elif part & needed == needed and fits(part):
                fitting[part] = True
                found.append(self.indexes(part))
        return sorted(found, key=lambda indexes: (len(indexes[0]) + len(indexes[1]), indexes))

"""The web of a box: its threads, with all heads and tails of its rules. Spots are told as the bits of a number."""

from splicedfilms.threads import Threads


class Web:
    """The web of strips and rules."""

    def __init__(self, strips, rules):
        threads = Threads(strips, rules)
        self.firsts = _bits(threads.firsts)
        self.lasts = _bits(threads.lasts)
        # By pictures: the spots from which a thread leads on by it, and the bridges that are reached or left by it.
        self._along = {}
        self._onto = {}
        self._off = {}
        spots = threads.spots()
        for thread in spots:
            for spot in thread[:-1]:
                self._along[threads.row[spot]] = self._along.get(threads.row[spot], 0) | 1 << spot
        for index, (entry, leave) in enumerate(zip(threads.entries, threads.exits)):
            self._onto.setdefault(threads.row[entry - 1], []).append((index, 1 << entry))
            self._off.setdefault(threads.row[leave], []).append((index, 1 << leave))
        # By rules: the spots of their heads and tails.
        self.heads = [0 for _ in rules]
        self.tails = [0 for _ in rules]
        # The spots to which ways lead from the beginning of a film, and those from which ways lead to the end of one.
        self.before = sum([_bits(thread) for thread in spots[:len(strips)]])
        self.after = self.before
        bridges = [_bits(thread) for thread in spots[len(strips):]]
        while self._widen(rules, bridges):
            pass

    def _widen(self, rules, bridges):
        # Looks once for more heads and tails, and for bridges to which or from which ways lead; tells of any.
        found = False
        for index, (front, behind, ahead, back) in enumerate(rules):
            heads = self.read_back(self.after, front + behind)[0]
            tails = self.read_on(self.before, ahead + back)[-1]
            before = self.before | bridges[index] if heads & self.before else self.before
            after = self.after | bridges[index] if tails & self.after else self.after
            if (heads, tails, before, after) != (self.heads[index], self.tails[index], self.before, self.after):
                self.heads[index], self.tails[index], self.before, self.after = heads, tails, before, after
                found = True
        return found

    def forth(self, ways, picture):
        """Return the spots to which ways lead on from some spots by a picture."""
        moved = (ways & self._along.get(picture, 0)) << 1
        for index, entry in self._onto.get(picture, ()):
            if ways & self.heads[index]:
                moved |= entry
        for index, leave in self._off.get(picture, ()):
            if ways & leave:
                moved |= self.tails[index]
        return moved

    def back(self, ways, picture):
        """Return the spots from which ways lead to some spots by a picture."""
        moved = ways >> 1 & self._along.get(picture, 0)
        for index, entry in self._onto.get(picture, ()):
            if ways & entry:
                moved |= self.heads[index]
        for index, leave in self._off.get(picture, ()):
            if ways & self.tails[index]:
                moved |= leave
        return moved

    def read_on(self, ways, text):
        """Return the list of the spots to which ways lead on from some spots by the beginnings of a text."""
        rows = [ways]
        for picture in text:
            rows.append(self.forth(rows[-1], picture))
        return rows

    def read_back(self, ways, text):
        """Return the list of the spots from which ways lead to some by the endings of a text, the longest first."""
        rows = [ways]
        for picture in reversed(text):
            rows.append(self.back(rows[-1], picture))
        return rows[::-1]

    def reads(self, film):
        """Tell whether a film can be read, that is, comes about."""
        return self.read_on(self.firsts, film)[-1] & self.lasts != 0

    def splices_by(self, index):
        """Tell whether films are spliced by the rule with an index."""
        return self.heads[index] & self.before != 0 and self.tails[index] & self.after != 0

    def seams(self, rules, film):
        """Return the ascending list of all (index, at) where a film can be read over the bridge of a rule."""
        before = self.read_on(self.firsts, film)
        after = self.read_back(self.lasts, film)
        found = []
        for index, (front, _, _, back) in enumerate(rules):
            low = film.find(front + back)
            while low >= 0:
                if before[low] & self.heads[index] and after[low + len(front + back)] & self.tails[index]:
                    found.append((index, low + len(front)))
                low = film.find(front + back, low + 1)
        return found


def _bits(spots):
    return sum([1 << spot for spot in spots])

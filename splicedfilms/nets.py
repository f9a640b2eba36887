"""The net of a box: its threads, with all heads and tails of its rules, where each way has a worth.

The worth of a way is worked out from those of its strips, rules, heads and tails. If it is a cost, a number of splices,
a head costs what the way does by which it is read, a tail too and one more for the splice, and a way costs what its
heads and tails do. The two films of a splice are then read by ways that cost together one less than the way of the
splice. So each way of a film is as dear as some tree of it, and no tree is cheaper than the cheapest way.
"""

from splicedfilms.threads import Threads


class Net:
    """The net of strips and rules. Ways are told as {spot: worth}, by the best worth of those that lead to a spot."""

    def __init__(self, strips, rules, measure):
        threads = Threads(strips, rules)
        self._row = threads.row
        self._both = measure.both
        self._best = measure.best
        # By spots: those to which ways lead on by a picture, and those from which ways lead there, with the worths.
        self.onward = [{} for _ in self._row]
        self.backward = [{} for _ in self._row]
        free = measure.of_picture()
        for spots in threads.spots():
            for spot, after in zip(spots, spots[1:]):
                self.onward[spot][after] = self.backward[after][spot] = free
        self.entries = threads.entries
        self.exits = threads.exits
        # By rules: the spots of their heads and tails, with their worths.
        self.heads = [{} for _ in rules]
        self.tails = [{} for _ in rules]
        worths = [measure.of_strip(index) for index in range(len(strips))]
        self.begun = dict(zip(threads.firsts, worths))
        self.ended = dict(zip(threads.lasts, worths))
        # The best ways from the beginning of a film to the spots, and from the spots to the end of a film.
        self.before = dict(self.begun)
        self.after = dict(self.ended)
        prices = [measure.of_rule(index) for index in range(len(rules))]
        while self._widen(rules, prices):
            pass

    def _widen(self, rules, prices):
        # Looks once for more and better heads and tails; tells whether there were any.
        self._spread(self.before, self.onward)
        self._spread(self.after, self.backward)
        found = False
        for index, (front, behind, ahead, back) in enumerate(rules):
            entry, leave = self.entries[index], self.exits[index]
            for spot, worth in self.read_back(self.after, front + behind)[0].items():
                if self._keep(self.heads[index], spot, worth):
                    self._link(spot, entry, worth)
                    found = True
            for spot, way in self.read_on(self.before, ahead + back)[-1].items():
                worth = self._both(way, prices[index])
                if self._keep(self.tails[index], spot, worth):
                    self._link(leave, spot, worth)
                    found = True
        return found

    def _keep(self, ways, spot, worth):
        # Keeps the better worth; tells whether it is a new one.
        if spot in ways:
            worth = self._best(ways[spot], worth)
            if worth == ways[spot]:
                return False
        ways[spot] = worth
        return True

    def _link(self, source, target, worth):
        self._keep(self.onward[source], target, worth)
        self._keep(self.backward[target], source, worth)

    def _spread(self, ways, steps):
        todo = list(ways)
        while todo:
            spot = todo.pop()
            for target, worth in steps[spot].items():
                if self._keep(ways, target, self._both(ways[spot], worth)):
                    todo.append(target)

    def _step(self, ways, steps, look, picture):
        both, best, row = self._both, self._best, self._row
        moved = {}
        for spot, worth in ways.items():
            # All ways from a spot lead on by one picture, and all ways to a spot come by one.
            if picture is None or row[spot + look] == picture:
                for target, price in steps[spot].items():
                    found = both(worth, price)
                    moved[target] = best(moved[target], found) if target in moved else found
        return moved

    def read_on(self, ways, text):
        """Return the list of the ways that lead on from some ways by the beginnings of a text."""
        rows = [ways]
        for picture in text:
            rows.append(self._step(rows[-1], self.onward, 0, picture))
        return rows

    def read_back(self, ways, text):
        """Return the list of the ways that lead to some ways by the endings of a text, the longest first."""
        rows = [ways]
        for picture in reversed(text):
            rows.append(self._step(rows[-1], self.backward, -1, picture))
        return rows[::-1]

    def one_more(self, ways):
        """Return the ways that lead on from some ways by one picture, whichever."""
        return self._step(ways, self.onward, 0, None)

    def joined(self, ways, others):
        """Return the best worth of a way by two that meet, `None` if none meet."""
        best = None
        for spot in ways:
            if spot in others:
                worth = self._both(ways[spot], others[spot])
                best = worth if best is None else self._best(best, worth)
        return best


class Costs:
    """The worth of a way is the number of its splices."""

    def of_picture(self):
        """Return the cost of going on by a picture."""
        return 0

    def of_strip(self, index):
        """Return the cost of a strip."""
        return 0

    def of_rule(self, index):
        """Return the cost of a splice by a rule."""
        return 1

    def both(self, one, other):
        """Return the cost of two ways together."""
        return one + other

    def best(self, one, other):
        """Return the lesser cost."""
        return one if one < other else other

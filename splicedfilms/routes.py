"""Routes: the cheapest ways by which films are read in the net of a box, and the trees that they stand for.

A route is (index of the strip at whose beginning it begins, turns). A turn is (at, is_off, index, spot): having read so
many pictures, the way goes from a spot onto the bridge of the rule with an index, by its head there, or off this bridge
to a spot, by its tail there. Where a way goes onto a bridge and next off it, the route stands for a splice by this
rule, the last one of a tree. The route of the first film is the one up to the bridge, and then that of the head; the
route of the second film is that of the tail, and then the one behind the bridge.
"""


class Routes:
    """The routes of a box, by a net where ways cost as many splices as they stand for."""

    def __init__(self, net, rules):
        self._net = net
        self._rules = rules
        self._starts = {spot: index for index, spot in enumerate(net.begun)}
        self._onto = {spot: index for index, spot in enumerate(net.entries)}
        self._off = {spot: index for index, spot in enumerate(net.exits)}
        # By rule and spot: the turns of the heads; the strips, turns and lengths of the tails.
        self._heads = {}
        self._tails = {}

    def tree(self, film):
        """Return a tree of fewest splices of a film that comes about."""
        rows = self._net.read_on(self._net.begun, film)
        spot = _cheapest(rows[-1], self._net.ended)
        return self._tree_of(self._route(self._trail_to(rows, spot)))

    def tree_over(self, film, index, at):
        """Return a tree of a film with this last splice, of as few splices as can be, `None` if there is none."""
        front, _, _, back = self._rules[index]
        low, high = at - len(front), at + len(back)
        if low < 0 or film[low:high] != front + back:
            return None
        before = self._net.read_on(self._net.begun, film[:low])
        after = self._net.read_back(self._net.ended, film[high:])
        head = _cheapest(before[-1], self._net.heads[index])
        tail = _cheapest(after[0], self._net.tails[index])
        if head is None or tail is None:
            return None
        start, turns = self._route(self._trail_to(before, head))
        later = _moved(self._turns(self._trail_from(after, tail)), high)
        over = [(low, False, index, head), (high, True, index, tail)]
        numbers, first, second = self._split((start, turns + over + later), len(turns))
        return ("splice",) + numbers + (self._tree_of(first), self._tree_of(second))

    def _tree_of(self, route):
        built = []
        # Trees may be too deep for calls of calls: the numbers of a splice come up when its trees stand at the end.
        todo = [(None, route)]
        while todo:
            numbers, part = todo.pop()
            if part is None:
                second = built.pop()
                first = built.pop()
                built.append(("splice",) + numbers + (first, second))
            elif not part[1]:
                built.append(("strip", part[0]))
            else:
                numbers, first, second = self._split(part, _last_bridge(part[1]))
                todo.extend([(numbers, None), (None, second), (None, first)])
        return built[0]

    def _split(self, route, place):
        # The two turns from a place on are onto a bridge and off it.
        start, turns = route
        low, _, index, head = turns[place]
        high, _, _, tail = turns[place + 1]
        front, _, _, back = self._rules[index]
        tail_start, tail_turns, length = self._tail(index, tail)
        first = (start, turns[:place] + _moved(self._head(index, head), low))
        second = (tail_start, tail_turns + _moved(turns[place + 2:], length - high))
        return (index, low + len(front), length - len(back)), first, second

    def _head(self, index, spot):
        if (index, spot) not in self._heads:
            front, behind, _, _ = self._rules[index]
            rows = self._net.read_back(self._net.after, front + behind)
            self._heads[(index, spot)] = self._turns(self._trail_from(rows, spot))
        return self._heads[(index, spot)]

    def _tail(self, index, spot):
        if (index, spot) not in self._tails:
            _, _, ahead, back = self._rules[index]
            trail = self._trail_to(self._net.read_on(self._net.before, ahead + back), spot)
            start, turns = self._route(trail)
            self._tails[(index, spot)] = (start, turns, len(trail) - 1)
        return self._tails[(index, spot)]

    def _trail_to(self, rows, spot):
        # Returns the spots of a cheapest way to a spot of the last row, from the beginning of a strip on.
        steps, before = self._net.backward, self._net.before
        trail = [spot]
        for near, far in zip(rows[-2::-1], rows[:0:-1]):
            trail.append(_next_spot(steps, near, trail[-1], far[trail[-1]]))
        while steps[trail[-1]]:
            trail.append(_next_spot(steps, before, trail[-1], before[trail[-1]]))
        return trail[::-1]

    def _trail_from(self, rows, spot):
        # Returns the spots of a cheapest way from a spot of the first row, up to the end of a strip.
        steps, after = self._net.onward, self._net.after
        trail = [spot]
        for near, far in zip(rows[1:], rows):
            trail.append(_next_spot(steps, near, trail[-1], far[trail[-1]]))
        while steps[trail[-1]]:
            trail.append(_next_spot(steps, after, trail[-1], after[trail[-1]]))
        return trail

    def _route(self, trail):
        return self._starts[trail[0]], self._turns(trail)

    def _turns(self, trail):
        turns = []
        for at, (source, target) in enumerate(zip(trail, trail[1:])):
            # Along a thread each spot is behind the one ahead of it, and no bridge is reached or left like this.
            if target != source + 1:
                index = self._onto.get(target)
                if index is not None and self._net.heads[index].get(source) == self._net.onward[source][target]:
                    turns.append((at, False, index, source))
                else:
                    turns.append((at + 1, True, self._off[source], target))
        return turns


def _cheapest(ways, others):
    """Return the spot where two ways meet that cost least together, `None` if none meet."""
    meeting = [spot for spot in ways if spot in others]
    return min(meeting, key=lambda spot: ways[spot] + others[spot], default=None)


def _next_spot(steps, ways, spot, cost):
    # A step that costs something else is not the one by which the way costs what it does.
    for other, price in steps[spot].items():
        if other in ways and ways[other] + price == cost:
            return other
    return None


def _moved(turns, by):
    return [(at + by, is_off, index, spot) for at, is_off, index, spot in turns]


def _last_bridge(turns):
    # Behind the last turn onto a bridge there are only such off bridges, first of all off this one.
    return max([place for place, (_, is_off, _, _) in enumerate(turns) if not is_off])

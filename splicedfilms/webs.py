"""The web of a box: spots, and ways from spot to spot, by which just the films that come about are read.

Each strip is a thread of spots: each picture of it leads from one spot to the next one. Each rule has a bridge, a
thread of its front and its back. A way may go from a spot to the start of a bridge if some way leads on from the spot
by front, behind and anything to the end of a strip: this text is the head of the rule at the spot. A way may go from
the end of a bridge to a spot if some way leads from the beginning of a strip by anything, ahead and back to the spot:
this text is the tail of the rule at the spot. So a way over a bridge stands for the splice of two films: what is read
ahead of the bridge and the head, the tail and what is read behind the bridge.

A cost is a number of splices. A head costs what the way does by which it is read, a tail too and one more for the
splice, and a way costs what its heads and tails do. The two films of a splice are then read by ways that cost together
one less than the way of the splice. So each way of a film is as dear as some tree of it, and no tree is cheaper than
the cheapest way.
"""

# A sign that no piece has, so that it is never read.
GAP = "."


class Web:
    """The web of strips and rules. Wherever costs are kept, it is by spots, as (cost, text)."""

    def __init__(self, strips, rules):
        # The picture at an index leads from the spot of this number to the next one.
        self.row = GAP
        self.firsts = []
        self.lasts = []
        for strip in strips:
            self.firsts.append(len(self.row))
            self.row = self.row + strip + GAP
            self.lasts.append(len(self.row) - 1)
        # By rules: the start of its bridge and its heads, the end of its bridge and its tails.
        self.heads = []
        self.tails = []
        for rule in rules:
            self.heads.append((len(self.row), {}))
            self.row = self.row + rule[0] + rule[3] + GAP
            self.tails.append((len(self.row) - 1, {}))
        self.signs = sorted(set(self.row.replace(GAP, "")))
        # The cheapest texts from the beginning of a film to the spots, and from the spots to the end of a film.
        self.before = self.begun()
        self.after = self.ended()
        _find_heads_and_tails(self, rules)

    def begun(self):
        """Return the ways that have read nothing."""
        return {spot: (0, "") for spot in self.firsts}

    def ended(self):
        """Return the ways that have nothing more to read."""
        return {spot: (0, "") for spot in self.lasts}

    def forth(self, ways, picture):
        """Return the cheapest ways that read one picture more behind what ways have read."""
        return _step(ways, picture, self.heads, self.tails, self.row, 0, 1)

    def back(self, ways, picture):
        """Return the cheapest ways that read one picture more ahead of what ways are to read."""
        return _step(ways, picture, self.tails, self.heads, self.row, -1, -1)

    def forth_by_any(self, ways):
        """Return the cheapest ways that read one picture more, whichever."""
        moved = {}
        for picture in self.signs:
            for spot, (cost, text) in self.forth(ways, picture).items():
                _keep(moved, spot, cost, text)
        return moved


def _keep(ways, spot, cost, text):
    if spot in ways and ways[spot][0] <= cost:
        return False
    ways[spot] = (cost, text)
    return True


def _step(ways, picture, enter, leave, row, look, move):
    # Ways stand at spots of strips and within bridges alone: the starts and ends of bridges are passed in the step.
    wide = dict(ways)
    for door, near in enter:
        for spot in near:
            if spot in ways:
                cost, text = ways[spot]
                _keep(wide, door, cost + near[spot][0], text)
    moved = {}
    for spot in wide:
        if row[spot + look] == picture:
            moved[spot + move] = wide[spot]
    for door, near in leave:
        if door in moved:
            cost, text = moved.pop(door)
            for spot in near:
                _keep(moved, spot, cost + near[spot][0], text)
    return moved


def _find_heads_and_tails(web, rules):
    # Heads and tails are found by other ones, so all are made cheaper until none can be.
    going = True
    while going:
        going = _widen(web)
        for index, (front, behind, ahead, back) in enumerate(rules):
            ways = web.after
            for picture in reversed(front + behind):
                ways = web.back(ways, picture)
            near = web.heads[index][1]
            for spot, (cost, text) in ways.items():
                if _keep(near, spot, cost, front + behind + text):
                    going = True
            ways = read_on(web, web.before, ahead + back)
            near = web.tails[index][1]
            for spot, (cost, text) in ways.items():
                if _keep(near, spot, cost + 1, text + ahead + back):
                    going = True


def _widen(web):
    wider = False
    for picture in web.signs:
        moved = web.forth(web.before, picture)
        for spot, (cost, text) in moved.items():
            if _keep(web.before, spot, cost, text + picture):
                wider = True
        moved = web.back(web.after, picture)
        for spot, (cost, text) in moved.items():
            if _keep(web.after, spot, cost, picture + text):
                wider = True
    return wider


def read_on(web, ways, text):
    """Return the cheapest ways that read a text more behind what ways have read."""
    for picture in text:
        ways = web.forth(ways, picture)
    return ways


def reads(web, film):
    """Tell whether a film can be read in a web, that is, comes about."""
    ways = read_on(web, web.begun(), film)
    return any([spot in ways for spot in web.lasts])


def seam_plans(web, rules, film):
    """Return {(index, at): (cost, first film, second film, its cut)} of the cheapest splice at each seam of a film."""
    before = [web.begun()]
    for picture in film:
        before.append(web.forth(before[-1], picture))
    after = [web.ended()]
    for picture in reversed(film):
        after.append(web.back(after[-1], picture))
    after.reverse()
    plans = {}
    for index, rule in enumerate(rules):
        bridge = rule[0] + rule[3]
        for low in range(len(film) - len(bridge) + 1):
            high = low + len(bridge)
            if film[low:high] == bridge:
                head = cheapest(before[low], web.heads[index][1])
                tail = cheapest(after[high], web.tails[index][1])
                if head is not None and tail is not None:
                    first, second = film[:low] + head[1], tail[1] + film[high:]
                    plan = (head[0] + tail[0], first, second, len(tail[1]) - len(rule[3]))
                    plans[(index, low + len(rule[0]))] = plan
    return plans


def cheapest(ways, near):
    """Return the (cost, text) of the cheapest way on by one of the (cost, text) near it, `None` if there is none."""
    best = None
    for spot, (cost, text) in near.items():
        if spot in ways and (best is None or ways[spot][0] + cost < best[0]):
            best = (ways[spot][0] + cost, text)
    return best

"""The threads of a box: rows of spots, by which its films are read.

Each strip is a thread: each picture of it leads from one spot to the next one. Each rule has a bridge, a thread of its
front and its back. A way may go from a spot onto a bridge, as if it were at its start, if some way leads on from the
spot by front, behind and anything to the end of a strip: this is a head of the rule. A way may go off a bridge to a
spot, as if this were its end, if some way leads from the beginning of a strip by anything, ahead and back to the spot:
this is a tail of the rule. So a way over a bridge stands for the splice of two films: what is read ahead of the bridge
and the head, the tail and what is read behind the bridge. Just the films that come about are read from the beginning of
a strip to the end of one.

Heads and tails are found by other ones, so all are looked for until there are no more.
"""

# A sign that no piece has, so that it is never read.
GAP = "."


class Threads:
    """The spots of strips and rules; the picture at an index leads from the spot of this number to the next one."""

    def __init__(self, strips, rules):
        self.row = GAP
        # By strips: their first and last spots.
        self.firsts = []
        self.lasts = []
        for strip in strips:
            self.firsts.append(len(self.row))
            self.row += strip + GAP
            self.lasts.append(len(self.row) - 1)
        # By rules: the spots behind the first picture of the bridge, and ahead of the last one. Ways stand at the spots
        # from the one to the other alone, as they go onto a bridge and leave it with a picture.
        self.entries = []
        self.exits = []
        for front, _, _, back in rules:
            self.entries.append(len(self.row) + 1)
            self.row += front + back + GAP
            self.exits.append(len(self.row) - 2)

    def spots(self):
        """Return all spots at which ways stand, by their threads."""
        threads = [list(range(first, last + 1)) for first, last in zip(self.firsts, self.lasts)]
        return threads + [list(range(entry, leave + 1)) for entry, leave in zip(self.entries, self.exits)]

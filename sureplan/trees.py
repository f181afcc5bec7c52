"""Trees that give states labels (points 48 and 49)."""

from sureplan.entries import with_fact, with_number
from sureplan.labels import is_less, lesser


class Tree:
    """A tree, written line by line from the root: each split, then its first tree, then its second tree.

    The place of a line is its position in `nodes`. The first tree of a split stands at the next place, and `seconds`
    has the place of its second tree; a place without one is a leaf. When the tree is complete, `low` has the least
    label that is written at or below each place, so it has the labels of the leaves.
    """

    def __init__(self):
        self.nodes = []
        self.seconds = []
        self.low = []
        self.waiting = []
        self.is_complete = False

    def write(self, line):
        """Writes the next due split or leaf."""
        place = len(self.nodes)
        self.nodes.append(line)
        self.seconds.append(None)
        if line[0] != "label":
            self.waiting.append(place)
        elif self.waiting:
            self.seconds[self.waiting.pop()] = place + 1
        else:
            self.complete()

    def complete(self):
        self.is_complete = True
        self.low = [None] * len(self.nodes)
        for place in range(len(self.nodes) - 1, -1, -1):
            second = self.seconds[place]
            if second is None:
                self.low[place] = self.nodes[place][1]
            else:
                self.low[place] = lesser(self.low[place + 1], self.low[second])

    def take_back(self):
        """Takes back the leaf that completed the tree."""
        self.nodes.pop()
        self.seconds.pop()
        self.low = []
        self.is_complete = False

    def is_leaf(self, place):
        return self.seconds[place] is None

    def sides(self, place, box):
        """Returns the trees below a split that have something in common with a box, the second one first.

        Each is a pair of its place and of what the box has in common with the states that it is for.
        """
        node = self.nodes[place]
        index = node[1]
        if node[0] == "fact":
            entry = box[0][index]
            if entry is None:
                return [(self.seconds[place], with_fact(box, index, False)), (place + 1, with_fact(box, index, True))]
            return [(place + 1, box)] if entry else [(self.seconds[place], box)]
        low, high = box[1][index]
        top = node[2]
        if high <= top:
            return [(place + 1, box)]
        if low > top:
            return [(self.seconds[place], box)]
        return [(self.seconds[place], with_number(box, index, (top + 1, high))),
                (place + 1, with_number(box, index, (low, top)))]

    def leaves_in(self, box):
        """Returns the leaves that have something in common with a box, in their order.

        Each is a pair of its place and of the box that it has in common with the given one.
        """
        found = []
        rows = [(0, box)]
        while rows:
            place, part = rows.pop()
            if self.seconds[place] is None:
                found.append((place, part))
            else:
                rows.extend(self.sides(place, part))
        return found

    def marked_in(self, box):
        """Returns what `leaves_in` returns, without the leaves that have the label 0."""
        found = []
        rows = [(0, box)]
        while rows:
            place, part = rows.pop()
            if self.seconds[place] is not None:
                rows.extend(self.sides(place, part))
            elif self.low[place] != 0:
                found.append((place, part))
        return found

    def least_in(self, box):
        """Returns the least label of the leaves that have something in common with a box."""
        best = None
        rows = [(0, box)]
        while rows:
            place, part = rows.pop()
            if is_less(self.low[place], best):
                if self.seconds[place] is None:
                    best = self.low[place]
                else:
                    rows.extend(self.sides(place, part))
        return best

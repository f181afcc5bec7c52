"""Layers of trees, and the shares of steps in them (point 51)."""

from sureplan.quotients import plus
from sureplan.trees import Tree

MOST_TREES = 500


class LayerTree:
    """A tree of a layer with its shares; `head` has the lines that tell them."""

    def __init__(self, line):
        self.head = [line]
        self.usual = line[1:]
        self.shares = {}
        self.tree = Tree()
        self.found = {}

    def tell(self, line):
        """Carries out a line "share"."""
        self.head.append(line)
        self.shares[line[1]] = line[2:]

    def share_of(self, step):
        return self.shares.get(step, self.usual)

    def least_known(self, box):
        """Returns the least label of the leaves that have something in common with a box; the answer is kept."""
        if box not in self.found:
            self.found[box] = self.tree.least_in(box)
        return self.found[box]


class Layer:
    """A sum layer or a lean layer, with the total of the shares of each step."""

    def __init__(self, is_lean, steps):
        self.is_lean = is_lean
        self.trees = []
        self.totals = [(0, 1)] * steps

    def is_full(self):
        return len(self.trees) >= (1 if self.is_lean else MOST_TREES)

    def totals_with(self, kept):
        """Returns the total share of each step if a tree is added."""
        return [plus(share, kept.share_of(step)) for step, share in enumerate(self.totals)]

    def append_tree(self, kept):
        self.totals = self.totals_with(kept)
        self.trees.append(kept)

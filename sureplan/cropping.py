"""Complete trees of which splits are replaced by leaves."""


class Crop:
    """A complete tree in which a split may be replaced by a leaf with the least label at or below it.

    That label is known for each place, so a split becomes a leaf when its second tree is forgotten. The labels and the
    boxes of the places that are left never change. `gone` tells which places are no longer there.
    """

    def __init__(self, tree, whole):
        self.tree = tree
        self.gone = [False] * len(tree.nodes)
        self.boxes = boxes_of(tree, whole)
        self.ends = ends_of(tree)

    def splits(self):
        """Returns the places of the splits that are left, in the order of the lines."""
        return [place for place in range(len(self.gone)) if not self.gone[place] and not self.tree.is_leaf(place)]

    def try_leaf(self, place):
        """Replaces a split, and returns its second tree, which `restore` needs."""
        seconds = self.tree.seconds
        second = seconds[place]
        seconds[place] = None
        return second

    def restore(self, place, second):
        seconds = self.tree.seconds
        seconds[place] = second

    def keep_leaf(self, place):
        """Lets the places below a split that was replaced be gone."""
        for below in range(place + 1, self.ends[place]):
            self.gone[below] = True

    def leave_out(self):
        """Lets all places be gone."""
        self.gone = [True] * len(self.gone)

    def lines(self):
        found = []
        for place, node in enumerate(self.tree.nodes):
            if not self.gone[place]:
                found.append(("label", self.tree.low[place]) if self.tree.is_leaf(place) else node)
        return found


def boxes_of(tree, whole):
    """Returns the box of each place of a tree, None where there is none."""
    boxes = [None] * len(tree.nodes)
    rows = [(0, whole)]
    while rows:
        place, box = rows.pop()
        boxes[place] = box
        if not tree.is_leaf(place):
            rows.extend(tree.sides(place, box))
    return boxes


def ends_of(tree):
    """Returns for each place the place behind the last line at or below it."""
    ends = [0] * len(tree.nodes)
    for place in range(len(ends) - 1, -1, -1):
        ends[place] = place + 1 if tree.is_leaf(place) else ends[tree.seconds[place]]
    return ends

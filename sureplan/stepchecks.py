"""Checks if the labels of a tree of a layer are right for all steps (reason "step" of point 53)."""

from sureplan.boxes import meets
from sureplan.labels import greater, is_less


def is_beyond(label, share, cost, after):
    """Tells if a label is greater than the share of the cost plus the label after the step."""
    if after is None:
        return False
    if label is None:
        return True
    p, q = share
    return label * q > p * cost + after * q


class StepCheck:
    """Checks a tree of a layer of a proof; `earlier` has the layers that it relies on, None for a sum layer.

    If `changed` is not None, all was right before a box got the label `floor`: then only labels that are greater than
    it can be wrong, and only where a step leads into this box.
    """

    def __init__(self, proof, kept, earlier, floor=0, changed=None):
        self.proof = proof
        self.kept = kept
        self.tree = kept.tree
        self.earlier = earlier
        self.floor = floor
        self.changed = changed
        self.seen = {}

    def fault(self):
        """Returns the first fault, or None."""
        for place, box in self.tree.marked_in(self.proof.whole):
            if is_less(self.floor, self.tree.low[place]):
                fault = self.leaf_fault(place, box)
                if fault is not None:
                    return fault
        return None

    def leaf_fault(self, place, box):
        """Returns the first fault of a leaf with a box, or None."""
        for spot, piece in self.proof.pieces(box):
            if self.is_wrong(self.tree.low[place], piece):
                return (place, spot)
        return None

    def is_wrong(self, label, piece):
        """Tells if some step from a piece leads to too small a label."""
        for step, cost, after in self.proof.moves.steps_from(piece):
            share = self.kept.share_of(step)
            if is_beyond(label, share, cost, self.floor) and is_beyond(label, share, cost, self.least_after(after)):
                return True
        return False

    def least_after(self, box):
        """Returns the least label that may follow in a box after a step, as far as it has to be looked at."""
        if box not in self.seen:
            is_far = self.changed is not None and not meets(box, self.changed)
            self.seen[box] = None if is_far else self.least_of(box)
        return self.seen[box]

    def least_of(self, box):
        best = None
        for _, piece in self.proof.pieces(box):
            label = self.tree.least_in(piece) if self.earlier is None else self.least_known(piece)
            if is_less(label, best):
                best = label
        return best

    def least_known(self, piece):
        """Returns the least label of a lean layer in a piece, raised to what the earlier layers know."""
        best = None
        for place, common in self.tree.leaves_in(piece):
            if is_less(self.tree.low[place], best):
                label = greater(self.tree.low[place], self.proof.known(self.earlier, common))
                if is_less(label, best):
                    best = label
        return best

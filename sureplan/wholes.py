"""The whole of a certificate: the tree of the inside, all layers with their trees, and one claim (point 61)."""

from sureplan.cropping import Crop
from sureplan.labels import is_less
from sureplan.stepchecks import StepCheck


class Whole:
    """What a judge has after its lines, and the faults that a reduction of it would have.

    A fault is a list of pairs of a crop and a place of it. As long as none of these places is gone, the reduction still
    has the fault: all other reductions only lessen labels and what layers know, and only widen the inside.
    """

    def __init__(self, proof, claim):
        self.proof = proof
        self.claimed = claim
        self.crops = {}
        for layer in proof.layers:
            for kept in layer.trees:
                self.crops[kept] = Crop(kept.tree, proof.whole)
        self.inside = None
        if proof.inside is not None:
            self.inside = Crop(proof.inside, proof.whole)

    def leave_out(self, trees):
        """Lets all places of these trees of layers be gone."""
        for kept in trees:
            self.crops[kept].leave_out()

    def leave_out_inside(self):
        """Lets the tree of the inside, which the proof has no longer, be gone."""
        self.inside.leave_out()
        self.inside = None

    def marked(self, kept, fault):
        """Returns the fault of a tree of a layer as pairs of crops and places."""
        place, spot = fault
        pairs = [(self.crops[kept], place)]
        if spot is not None:
            pairs.append((self.inside, spot))
        return pairs

    def claim_fault(self):
        """Returns a fault if the claim is too high; no other reduction makes it right again."""
        return [] if is_less(self.proof.start_value(), self.claimed) else None

    def lean_fault(self, first):
        """Returns a fault of the trees of the lean layers from a layer on, since they rely on earlier layers."""
        for place in range(first, len(self.proof.layers)):
            layer = self.proof.layers[place]
            if layer.is_lean:
                for kept in layer.trees:
                    fault = StepCheck(self.proof, kept, self.proof.relied_on(place)).fault()
                    if fault is not None:
                        return self.marked(kept, fault)
        return None

    def missing_fault(self, first):
        """Returns a fault that comes from something that was left out before a layer."""
        fault = self.claim_fault()
        return self.lean_fault(first) if fault is None else fault

    def all_fault(self):
        """Returns a fault of any tree of a layer."""
        for place, layer in enumerate(self.proof.layers):
            for kept in layer.trees:
                fault = self.proof.goal_fault(kept.tree)
                if fault is None:
                    fault = StepCheck(self.proof, kept, self.proof.relied_on(place)).fault()
                if fault is not None:
                    return self.marked(kept, fault)
        return None

    def leaf_fault(self, layer, kept, place):
        """Returns a fault of a leaf with a label other than 0 in the place of a split of a tree of a layer."""
        box = self.crops[kept].boxes[place]
        spot = self.proof.goal_spot(box)
        if spot is not None:
            return self.marked(kept, (place, spot[0]))
        fault = StepCheck(self.proof, kept, self.proof.relied_on(layer)).leaf_fault(place, box)
        return None if fault is None else self.marked(kept, fault)

    def split_fault(self, layer, kept, place):
        """Returns a fault that comes from a leaf in the place of a split: its own, or one of what relies on it."""
        box = self.crops[kept].boxes[place]
        label = kept.tree.low[place]
        if box is None:
            return None
        fault = self.claim_fault()
        if fault is None and label != 0:
            fault = self.leaf_fault(layer, kept, place)
        if fault is not None:
            return fault
        other = StepCheck(self.proof, kept, self.proof.relied_on(layer), label, box).fault()
        return self.lean_fault(layer + 1) if other is None else self.marked(kept, other)

    def inside_fault(self, place):
        """Returns a fault that comes from a leaf in the place of a split of the tree for the inside."""
        box = self.inside.boxes[place]
        tree = self.inside.tree
        if box is None or tree.low[place] is None:
            return None
        other = self.proof.outside_reached(tree, box)
        if other is not None:
            return [(self.inside, other)]
        return self.all_fault()

    def lines(self):
        """Returns the lines of the whole."""
        found = []
        if self.inside is not None:
            found = [("invariant",)] + self.inside.lines()
        for layer in self.proof.layers:
            found.append(("lean",) if layer.is_lean else ("sum",))
            for kept in layer.trees:
                found.extend(kept.head)
                found.extend(self.crops[kept].lines())
        return found + [("claim", self.claimed)]

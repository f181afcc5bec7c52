"""The reductions that trim the whole of a certificate, in their order (point 61)."""


def still_there(fault):
    """Tells if all places of a fault are still there."""
    return all([not crop.gone[place] for crop, place in fault])


class Reducer:
    """Tries reductions of a whole, and keeps the faults of those that were not possible.

    After each reduction all of them are tried again from the beginning. Those whose fault is still there are passed
    over, so that few of them have to be tried more than once.
    """

    def __init__(self, whole):
        self.whole = whole
        self.proof = whole.proof
        self.faults = {}

    def reduce_all(self):
        while self.reduce_once():
            pass

    def reduce_once(self):
        """Makes the first reduction that is possible, and tells if there was one."""
        if self.leave_out_layer() or self.leave_out_tree() or self.crop_tree():
            return True
        return self.whole.inside is not None and (self.crop_inside() or self.leave_out_inside())

    def is_impossible(self, key):
        return key in self.faults and still_there(self.faults[key])

    def is_possible(self, key, fault):
        """Tells if a reduction that was tried has no fault; otherwise the fault is kept."""
        if fault is not None:
            self.faults[key] = fault
        return fault is None

    def leave_out_layer(self):
        proof = self.proof
        layers = proof.layers
        for place in range(len(layers) - 1, -1, -1):
            layer = layers[place]
            if not self.is_impossible(layer):
                proof.layers = layers[:place] + layers[place + 1:]
                if self.is_possible(layer, self.whole.missing_fault(place)):
                    self.whole.leave_out(layer.trees)
                    return True
                proof.layers = layers
        return False

    def leave_out_tree(self):
        for place, layer in enumerate(self.proof.layers):
            trees = layer.trees
            for number in range(len(trees) - 1, -1, -1):
                kept = trees[number]
                if not self.is_impossible(kept):
                    layer.trees = trees[:number] + trees[number + 1:]
                    if self.is_possible(kept, self.whole.missing_fault(place + 1)):
                        self.whole.leave_out([kept])
                        return True
                    layer.trees = trees
        return False

    def crop_tree(self):
        for place, layer in enumerate(self.proof.layers):
            for kept in layer.trees:
                for split in self.whole.crops[kept].splits():
                    if not self.is_impossible((kept, split)) and self.crop_split(place, kept, split):
                        return True
        return False

    def crop_split(self, place, kept, split):
        """Tries to replace a split of a tree of the layer at a place by a leaf, and tells if it was possible."""
        crop = self.whole.crops[kept]
        second = crop.try_leaf(split)
        kept.found = {}
        if self.is_possible((kept, split), self.whole.split_fault(place, kept, split)):
            crop.keep_leaf(split)
            return True
        crop.restore(split, second)
        kept.found = {}
        return False

    def crop_inside(self):
        inside = self.whole.inside
        for split in inside.splits():
            if not self.is_impossible((inside, split)):
                second = inside.try_leaf(split)
                if self.is_possible((inside, split), self.whole.inside_fault(split)):
                    inside.keep_leaf(split)
                    return True
                inside.restore(split, second)
        return False

    def leave_out_inside(self):
        proof = self.proof
        inside = self.whole.inside
        if self.is_impossible(inside):
            return False
        proof.inside = None
        if self.is_possible(inside, self.whole.all_fault()):
            self.whole.leave_out_inside()
            return True
        proof.inside = inside.tree
        return False

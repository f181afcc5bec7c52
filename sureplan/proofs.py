"""What a judge has: the inside and the layers, and what makes a tree wrong (points 50 to 54)."""

from sureplan.boxes import box_of_state, whole_box
from sureplan.boxmoves import BoxGoal, BoxMoves
from sureplan.grounded import Grounded
from sureplan.grounding import ground_formula
from sureplan.labels import greater, total


class Proof:
    """The inside, which is that of a tree or the whole box, and the layers.

    A fault is a pair: the place of a leaf, and the place of the leaf of the inside in which the fault is, or None.
    """

    def __init__(self, task, start, goal):
        self.whole = whole_box(task)
        self.start = box_of_state(start)
        self.moves = BoxMoves(Grounded(task))
        self.goal = BoxGoal(ground_formula(task, goal, {}))
        self.inside = None
        self.layers = []

    def pieces(self, box):
        """Returns the pieces of a box, each behind the place of its leaf of the inside."""
        if self.inside is None:
            return [(None, box)]
        low = self.inside.low
        return [pair for pair in self.inside.leaves_in(box) if low[pair[0]] is not None]

    def known(self, layers, box):
        """Returns what the layers know of a box that lies in a box of the inside."""
        best = 0
        for layer in layers:
            best = greater(best, total([kept.least_known(box) for kept in layer.trees]))
        return best

    def start_value(self):
        """Returns the value at the start."""
        return self.known(self.layers, self.start)

    def relied_on(self, place):
        """Returns the layers that the layer at a place relies on: those before a lean layer, otherwise None."""
        return self.layers[:place] if self.layers[place].is_lean else None

    def goal_fault(self, tree):
        """Returns the first fault with the reason "goal", or None."""
        for place, box in tree.marked_in(self.whole):
            spot = self.goal_spot(box)
            if spot is not None:
                return (place, spot[0])
        return None

    def goal_spot(self, box):
        """Returns the first piece of a box in which the goal may hold, behind the place of its leaf, or None."""
        for pair in self.pieces(box):
            if self.goal.may_hold_in(pair[1]):
                return pair
        return None

    def leaving_fault(self, tree):
        """Returns the first fault of a tree for the inside with the reason "step", or None.

        It is a pair of the place of the leaf that a step leaves and of the place of the leaf that it reaches.
        """
        for place, box in tree.leaves_in(self.whole):
            if tree.low[place] is not None:
                other = self.outside_reached(tree, box)
                if other is not None:
                    return (place, other)
        return None

    def outside_reached(self, tree, box):
        """Returns the place of the first leaf with the label None that a step from a box may reach, or None."""
        for _, _, after in self.moves.steps_from(box):
            for place, _ in tree.leaves_in(after):
                if tree.low[place] is None:
                    return place
        return None

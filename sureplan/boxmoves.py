"""What steps do in boxes, and whether a goal may hold there; answers are kept, as the same boxes come up repeatedly."""

from sureplan.cutting import remainder_ground
from sureplan.stepping import ground_step_from

MOST_KEPT = 200000


class BoxMoves:
    """For each box the tuples (step, least cost, box after) of the steps that may be possible in it."""

    def __init__(self, grounded):
        self.grounded = grounded
        self.kept = {}
        self.many = 0

    def steps_from(self, box):
        """Returns the list of the steps that may be possible in the box, in ascending order."""
        if box in self.kept:
            return self.kept[box]
        found = []
        for step in range(self.grounded.many):
            answer = ground_step_from(self.grounded, step, box)
            if answer is not None:
                found.append((step,) + answer)
        self.make_room(1 + len(found))
        self.kept[box] = found
        return found

    def make_room(self, more):
        """Forgets everything if too much would be kept."""
        self.many += more
        if self.many > MOST_KEPT:
            self.kept = {}
            self.many = more


class BoxGoal:
    """Tells of boxes if a ground goal may hold in them."""

    def __init__(self, goal):
        self.goal = goal
        self.kept = {}

    def may_hold_in(self, box):
        if box not in self.kept:
            if len(self.kept) >= MOST_KEPT:
                self.kept = {}
            self.kept[box] = remainder_ground(self.goal, box) is not None
        return self.kept[box]

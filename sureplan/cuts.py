"""Cuts: steps that lead out of boxes, and the bound that their amounts give (points 66 and 67)."""

from sureplan.boxes import lies_in
from sureplan.boxmoves import BoxMoves
from sureplan.checks import check_state
from sureplan.cutting import remainder_ground
from sureplan.errors import TooLarge
from sureplan.grounded import Grounded
from sureplan.grounding import ground_formula
from sureplan.labels import total
from sureplan.outline import closed_box
from sureplan.quotients import minus, whole_part

MOST_CUTS = 500


def leading_out(moves, box):
    """Returns the pairs (step, least cost) of the steps that lead out of a box."""
    return [(step, least) for step, least, after in moves.steps_from(box) if not lies_in(after, box)]


def amount_of(rests, leading):
    """Returns the amount of a cut: the least that is left of one of its steps, or None if it has none."""
    if not leading:
        return None
    return min([whole_part(rests[step], least) for step, least in leading])


def find_cuts(task, state):
    """Returns the list of the cuts."""
    moves = BoxMoves(Grounded(task))
    goal = ground_formula(task, task.goal, {})
    rests = [(1, 1)] * moves.grounded.many
    found = []
    amount = 0
    while amount is not None:
        box = closed_box(moves, rests, state)
        if remainder_ground(goal, box) is not None:
            return found
        if len(found) >= MOST_CUTS:
            raise TooLarge("cuts")
        leading = leading_out(moves, box)
        amount = amount_of(rests, leading)
        found.append((amount, box, leading))
        if amount is not None:
            for step, least in leading:
                rests[step] = minus(rests[step], (amount, least))
    return found


def cuts(task, state):
    """Returns the list of the cuts, tuples (amount, box, steps that lead out of it)."""
    check_state(task, state)
    return find_cuts(task, state)


def cut_bound(task, state):
    """Returns the cut bound: no plan costs less, and there is no plan if it is None."""
    check_state(task, state)
    return total([cut[0] for cut in find_cuts(task, state)])

"""Levels: boxes with costs, which are reached one after another, and the bound that they give (point 65)."""

from heapq import heappop, heappush

from sureplan.boxes import box_of_state, hull, lies_in
from sureplan.boxmoves import BoxMoves
from sureplan.checks import check_state
from sureplan.cutting import remainder_ground
from sureplan.grounded import Grounded
from sureplan.grounding import ground_formula


def next_level(pairs, last):
    """Returns the cost and the box of the next level, or None; `pairs` is a heap of (cost, number, box after)."""
    wider = last
    least = None
    while pairs and (least is None or pairs[0][0] == least):
        cost, _, after = heappop(pairs)
        # A box that lies in the last level lies in all levels to come, too, so it is never needed again.
        if not lies_in(after, last):
            least = cost
            wider = hull(wider, after)
    return None if least is None else (least, wider)


def levels_and_bound(task, state):
    """Returns the list of the levels and the level bound."""
    moves = BoxMoves(Grounded(task))
    goal = ground_formula(task, task.goal, {})
    found = []
    level = (0, box_of_state(state))
    pairs = []
    made = 0
    while level is not None:
        found.append(level)
        cost, box = level
        if remainder_ground(goal, box) is not None:
            return (found, cost)
        for _, least, after in moves.steps_from(box):
            made += 1
            heappush(pairs, (cost + least, made, after))
        level = next_level(pairs, box)
    return (found, None)


def levels(task, state):
    """Returns the list of the levels, pairs of a cost and a box."""
    check_state(task, state)
    return levels_and_bound(task, state)[0]


def level_bound(task, state):
    """Returns the level bound: no plan costs less, and there is no plan if it is None."""
    check_state(task, state)
    return levels_and_bound(task, state)[1]

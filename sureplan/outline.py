"""Outlines: boxes that contain every state that can be reached (point 46)."""

from sureplan.boxes import box_of_state, hull
from sureplan.boxmoves import BoxMoves
from sureplan.checks import check_state
from sureplan.grounded import Grounded
from sureplan.quotients import whole_part


def next_round(moves, rests, box):
    """Returns the hull of the box and of the boxes after the steps of which 0 is left in it (point 66)."""
    wider = box
    for step, least, after in moves.steps_from(box):
        if whole_part(rests[step], least) == 0:
            wider = hull(wider, after)
    return wider


def closed_box(moves, rests, state):
    """Returns the smallest box that contains the state and the boxes after the steps of which 0 is left in it."""
    before = None
    box = box_of_state(state)
    while box != before:
        before = box
        box = next_round(moves, rests, box)
    return box


def outline_of(moves, state):
    """Returns the outline of a state."""
    return closed_box(moves, [(0, 1)] * moves.grounded.many, state)


def outline(task, state):
    """Returns the outline of the state."""
    check_state(task, state)
    return outline_of(BoxMoves(Grounded(task)), state)


def changeable(task, state):
    """Returns the indexes of the facts, of the numbers and of the steps that the outline leaves open or possible."""
    check_state(task, state)
    moves = BoxMoves(Grounded(task))
    box = outline_of(moves, state)
    facts = [index for index, entry in enumerate(box[0]) if entry is None]
    numbers = [index for index, (low, high) in enumerate(box[1]) if low < high]
    return (facts, numbers, [move[0] for move in moves.steps_from(box)])

"""Outlines: boxes that contain every state that can be reached (point 46)."""

from sureplan.boxes import box_of_state, hull
from sureplan.checks import check_state
from sureplan.grounded import Grounded
from sureplan.stepping import ground_step_from


def next_round(grounded, box):
    """Returns the hull of the box and of the boxes after all steps that may be possible in it."""
    wider = box
    for step in range(grounded.many):
        answer = ground_step_from(grounded, step, box)
        if answer is not None:
            wider = hull(wider, answer[1])
    return wider


def ground_outline(grounded, state):
    """Returns the outline of a state."""
    before = None
    box = box_of_state(state)
    while box != before:
        before = box
        box = next_round(grounded, box)
    return box


def outline(task, state):
    """Returns the outline of the state."""
    check_state(task, state)
    return ground_outline(Grounded(task), state)


def changeable(task, state):
    """Returns the indexes of the facts, of the numbers and of the steps that the outline leaves open or possible."""
    check_state(task, state)
    grounded = Grounded(task)
    box = ground_outline(grounded, state)
    facts = [index for index, entry in enumerate(box[0]) if entry is None]
    numbers = [index for index, (low, high) in enumerate(box[1]) if low < high]
    steps = [step for step in range(grounded.many) if ground_step_from(grounded, step, box) is not None]
    return (facts, numbers, steps)

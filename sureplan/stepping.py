"""What a step does in a box (points 43 to 45)."""

from sureplan.conditions import form_span
from sureplan.cutting import remainder_ground
from sureplan.gathering import Gathered
from sureplan.grounded import Grounded


def ground_step_from(grounded, index, box):
    """Returns the least cost of a step in a box and the box after it, or None if it cannot be possible."""
    step = grounded.step(index)
    left = remainder_ground(step.condition, box)
    if left is None:
        return None
    gathered = Gathered()
    gathered.gather(step.effects, left, True)
    if gathered.contradicts():
        return None
    least, greatest = form_span(step.cost_form, left[1])
    if greatest < 0 or form_span(step.time_form, left[1])[1] < 1:
        return None
    after = gathered.box_after(left, grounded.ranges)
    return None if after is None else (max(0, least), after)


def step_from(task, step, box):
    """Returns the least cost of the step in the box and the box after it, or None if it cannot be possible."""
    return ground_step_from(Grounded(task), step, box)

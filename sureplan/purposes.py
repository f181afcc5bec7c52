"""What each step of a plan is for, and the cheapest part of a plan (points 80 and 81)."""

from itertools import combinations

from sureplan.acting import is_true
from sureplan.errors import NotPossible
from sureplan.grounding import ground_formula
from sureplan.ownruns import OwnRun

MOST_STEPS = 8


def purpose(run, goal, left_out):
    """Returns what the step at a position is for."""
    answer = run.run_part([position for position in range(len(run.steps)) if position != left_out])
    if answer[0] == "not":
        return ("step", answer[1], answer[2])
    holding, given = answer[2]
    return ("nothing",) if is_true(goal, holding, given) else ("goal",)


def purposes(task, steps, state):
    """Returns the list of what each step is for."""
    run = OwnRun(task, steps, state, MOST_STEPS)
    goal = ground_formula(task, task.goal, {})
    holding, given = run.last
    if not is_true(goal, holding, given):
        raise NotPossible(len(steps), ("goal",))
    return [purpose(run, goal, position) for position in range(len(steps))]


def cheapest_part(task, steps, state):
    """Returns the cost and the positions of the cheapest part that is a plan, or None if no part is one."""
    run = OwnRun(task, steps, state, MOST_STEPS)
    goal = ground_formula(task, task.goal, {})
    best = None
    for many in range(len(steps) + 1):
        # The parts come with the fewest steps first, then in order, so a later one must cost less.
        for positions in combinations(range(len(steps)), many):
            answer = run.run_part(positions)
            if answer[0] == "done" and (best is None or answer[1] < best[0]):
                holding, given = answer[2]
                if is_true(goal, holding, given):
                    best = (answer[1], list(positions))
    return best

"""Runs of lists of steps."""

from sureplan.acting import attempt, is_true
from sureplan.checks import check_state, check_steps
from sureplan.grounded import Grounded
from sureplan.grounding import ground_formula


def run(task, state, steps):
    """Returns ("done", cost, last state, whether the goal holds in it), or ("not", position, reason)."""
    check_state(task, state)
    check_steps(task, steps)
    grounded = Grounded(task)
    total = 0
    for position, step in enumerate(steps):
        answer = attempt(grounded, state, step)
        if answer[0] == "not":
            return ("not", position, answer[1])
        total += answer[1]
        state = answer[3]
    holding, values = state
    return ("done", total, state, is_true(ground_formula(task, task.goal, {}), holding, values))


def possible_steps(task, state):
    """Returns a tuple (step, cost, time) for each possible step, in ascending order."""
    check_state(task, state)
    grounded = Grounded(task)
    found = []
    for step in range(grounded.many):
        answer = attempt(grounded, state, step)
        if answer[0] == "done":
            found.append((step, answer[1], answer[2]))
    return found

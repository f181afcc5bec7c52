"""Checks the arguments of functions (point 29)."""

from sureplan.errors import BadValue

MOST_LISTED = 100


def check_state(task, state):
    if not task.is_state(state):
        raise BadValue("state")


def checked_start(task, state):
    """Returns the state, or the start of the task if it is None."""
    if state is None:
        return task.start_state()
    check_state(task, state)
    return state


def check_formula(task, formula, name="formula"):
    if not task.is_formula(formula):
        raise BadValue(name)


def check_amount(task, amount):
    if not task.is_amount(amount):
        raise BadValue("amount")


def check_step(task, step):
    if not task.is_step(step):
        raise BadValue("step")


def check_steps(task, steps):
    if not isinstance(steps, list) or len(steps) > MOST_LISTED:
        raise BadValue("steps")
    if not all([task.is_step(step) for step in steps]):
        raise BadValue("steps")


def checked_goal(task, goal):
    """Returns the goal, or the goal of the task if it is None."""
    if goal is None:
        return task.goal
    check_formula(task, goal, "goal")
    return goal

"""What formulas, amounts and steps mean in a state."""

from sureplan.acting import attempt, form_value, is_true
from sureplan.checks import check_amount, check_formula, check_state, check_step
from sureplan.grounded import Grounded
from sureplan.grounding import ground_amount, ground_formula


def holds(task, formula, state):
    """Tells if the formula holds in the state."""
    check_formula(task, formula)
    check_state(task, state)
    holding, values = state
    return is_true(ground_formula(task, formula, {}), holding, values)


def worth(task, amount, state):
    """Returns the value of the amount in the state."""
    check_amount(task, amount)
    check_state(task, state)
    return form_value(ground_amount(task, amount, {}), state[1])


def try_step(task, state, step):
    """Returns ("done", cost, time, next state) if the step is possible, otherwise ("not", reason)."""
    check_state(task, state)
    check_step(task, step)
    return attempt(Grounded(task), state, step)

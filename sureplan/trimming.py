"""Trims certificates: leaves out what the claim does not need (point 61)."""

from sureplan.checks import check_state, checked_goal
from sureplan.errors import BadValue
from sureplan.judge import Judge
from sureplan.reductions import Reducer
from sureplan.wholes import Whole

MOST_LINES = 1000


def trimmed(task, state, goal, lines):
    """Returns the lines of a smaller certificate with the same claim, or None if no claim is right."""
    if state is not None:
        check_state(task, state)
    checked_goal(task, goal)
    if not isinstance(lines, list) or len(lines) > MOST_LINES:
        raise BadValue("lines")
    judge = Judge(task, state, goal)
    for line in lines:
        judge.line(line)
    claim = judge.claim()
    if claim is None:
        return None
    whole = Whole(judge.proof, None if claim == "none" else claim)
    Reducer(whole).reduce_all()
    return whole.lines()

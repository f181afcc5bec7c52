"""Projections of a task to patterns of few facts and numbers, and the bound that they give (points 68 to 70)."""

from sureplan.checks import check_state
from sureplan.labels import total
from sureplan.patterns import check_patterns
from sureplan.projecting import cost_from, project_all


def projections(task, patterns, state):
    """Returns for each pattern the list of its parts with their costs to go."""
    check_patterns(task, patterns)
    check_state(task, state)
    found = project_all(task, patterns, state)[1]
    return [list(zip(projection.boxes, projection.costs)) for projection in found]


def projection_bound(task, patterns, state):
    """Returns the projection bound: no plan costs less, and there is no plan if it is None."""
    check_patterns(task, patterns)
    check_state(task, state)
    return total([cost_from(projection, state) for projection in project_all(task, patterns, state)[1]])

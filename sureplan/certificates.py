"""Certificates: lines that a judge finds right, and that claim the cost of the first plan."""

from sureplan.boxes import whole_box
from sureplan.checks import checked_goal, checked_start
from sureplan.errors import TooLarge
from sureplan.exploring import Explored
from sureplan.grounded import Grounded
from sureplan.grounding import ground_formula
from sureplan.growing import grown
from sureplan.labels import lesser
from sureplan.search import distances, goal_places

MOST_CELLS = 300000


def labelled_states(states, found):
    """Returns the labels of the states whose label is not 0: the costs to go, as far as the claim needs them.

    No label is greater than the one of the first state, since the claim is about this one.
    """
    costs = [None if pair is None else pair[0] for pair in found]
    labels = {}
    for state, cost in zip(states, costs):
        label = lesser(cost, costs[0])
        if label != 0:
            labels[state] = label
    return labels


def certificate(task, state=None, goal=None):
    """Returns a list of lines with which a judge claims the cost of the first plan, or that there is none."""
    start = checked_start(task, state)
    ground_goal = ground_formula(task, checked_goal(task, goal), {})
    explored = Explored(Grounded(task), start)
    cells = 1 + len(task.all_facts()) + len(task.all_numbers())
    if len(explored.states) * cells > MOST_CELLS:
        raise TooLarge("certificate")
    found = distances(explored.arcs, goal_places(ground_goal, explored.states))
    labels = labelled_states(explored.states, found)
    if not labels:
        return [("claim", 0)]
    # Each leaf with a label other than 0 has the box of a single state, in which a step does just what it does there.
    return [("sum",), ("tree", 1, 1)] + grown(whole_box(task), labels) + [("claim", labels[start])]

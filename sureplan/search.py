"""Reached states and first plans."""

from heapq import heappop, heappush

from sureplan.acting import is_true
from sureplan.checks import check_state, checked_goal
from sureplan.exploring import Explored
from sureplan.grounded import Grounded
from sureplan.grounding import ground_formula


def reached_states(task, state):
    """Returns the list of the reached states, the state itself first."""
    check_state(task, state)
    return Explored(Grounded(task), state).states


def arcs_into(arcs):
    """Returns for each place the pairs (place before, cost) of the arcs that lead to it."""
    into = [[] for _ in arcs]
    for place, leaving in enumerate(arcs):
        for _, cost, target in leaving:
            into[target].append((place, cost))
    return into


def distances(arcs, ends):
    """Returns for each place the least pair (cost, number of steps) of a way to one of the ends, or None."""
    into = arcs_into(arcs)
    found = [None for _ in arcs]
    queue = []
    for place in ends:
        heappush(queue, (0, 0, place))
    while queue:
        total, length, place = heappop(queue)
        if found[place] is None:
            found[place] = (total, length)
            for before, cost in into[place]:
                if found[before] is None:
                    heappush(queue, (total + cost, length + 1, before))
    return found


def goal_places(goal, states):
    """Returns the places of the states in which a ground goal holds."""
    return [place for place, (holding, values) in enumerate(states) if is_true(goal, holding, values)]


def next_arc(arcs, found, place):
    """Returns the arc with the least step that a least way takes from a place."""
    total, length = found[place]
    for arc in arcs[place]:
        _, cost, target = arc
        if found[target] == (total - cost, length - 1):
            return arc
    return None


def first_steps(arcs, found):
    """Returns the steps of the first one of the least ways from place 0."""
    steps = []
    place = 0
    while found[place][1] > 0:
        step, _, place = next_arc(arcs, found, place)
        steps.append(step)
    return steps


def first_plan(task, state, goal=None):
    """Returns the tuple (cost, steps) of the first plan, or None if there is no plan."""
    check_state(task, state)
    goal = ground_formula(task, checked_goal(task, goal), {})
    explored = Explored(Grounded(task), state)
    found = distances(explored.arcs, goal_places(goal, explored.states))
    if found[0] is None:
        return None
    return (found[0][0], first_steps(explored.arcs, found))

"""Changes an earlier list of steps into a plan of least cost (points 96 to 100)."""

from sureplan.checks import check_steps, checked_start
from sureplan.edits import EditWays
from sureplan.exploring import Explored
from sureplan.grounded import Grounded
from sureplan.grounding import ground_formula
from sureplan.search import distances, goal_places


def common_lengths(old, new):
    """Returns for each two positions the length of a longest common part of what stands from there on."""
    rows = [[0] * (len(new) + 1)]
    for step in reversed(old):
        behind = rows[-1]
        row = [0]
        for place in range(len(new) - 1, -1, -1):
            row.append(behind[place + 1] + 1 if new[place] == step else max(behind[place], row[-1]))
        row.reverse()
        rows.append(row)
    rows.reverse()
    return rows


def edit_count(old, new):
    """Returns the number of steps that are deleted and inserted between two lists."""
    return len(old) + len(new) - 2 * common_lengths(old, new)[0][0]


def kept_positions(old, new):
    """Returns the positions of the old list in the longest common part whose positions come first."""
    lengths = common_lengths(old, new)
    kept = []
    place = 0
    for position, step in enumerate(old):
        if step in new[place:]:
            # The first place of the step leaves the most behind it.
            behind = new.index(step, place) + 1
            if lengths[position + 1][behind] + 1 == lengths[position][place]:
                kept.append(position)
                place = behind
    return kept


def least_arcs(arcs, found):
    """Returns for each place that plans of least cost lead to the steps with which they go on, and where these lead."""
    least = [{} for _ in arcs]
    places = [0]
    reached = {0: True}
    while places:
        place = places.pop()
        for step, cost, target in arcs[place]:
            if found[target] is not None and found[target][0] + cost == found[place][0]:
                least[place][step] = target
                if target not in reached:
                    reached[target] = True
                    places.append(target)
    return least


def repair(task, steps, state=None):
    """Returns (cost, plan, kept positions) of the repair of a list of steps, or None if there is no plan."""
    check_steps(task, steps)
    explored = Explored(Grounded(task), checked_start(task, state))
    ends = goal_places(ground_formula(task, task.goal, {}), explored.states)
    found = distances(explored.arcs, ends)
    if found[0] is None:
        return None
    ways = EditWays(steps, least_arcs(explored.arcs, found), ends)
    plan = ways.first_steps(0)
    return (found[0][0], plan, kept_positions(steps, plan))

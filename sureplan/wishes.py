"""Wishes, and the best choice of steps within a budget (points 101 to 104)."""

from itertools import combinations

from sureplan.acting import is_true
from sureplan.checks import check_state, checked_start
from sureplan.errors import BadValue, TooLarge
from sureplan.exploring import Explored
from sureplan.grounded import Grounded
from sureplan.grounding import ground_formula
from sureplan.names import LARGEST, is_integer
from sureplan.search import distances, first_steps

MOST_WISHES = 8


def is_wish(task, wish):
    """Tells if the value is a formula with a value."""
    if not isinstance(wish, tuple) or len(wish) != 2 or not task.is_formula(wish[0]):
        return False
    return is_integer(wish[1]) and 1 <= wish[1] <= LARGEST


def check_wishes(task, wishes):
    if not isinstance(wishes, list) or not 1 <= len(wishes) <= MOST_WISHES:
        raise BadValue("wishes")
    if not all([is_wish(task, wish) for wish in wishes]):
        raise BadValue("wishes")


def check_budget(budget):
    if budget is not None and (not is_integer(budget) or not 0 <= budget <= LARGEST):
        raise BadValue("budget")


class Wishes:
    """Some wishes in ground form."""

    def __init__(self, task, wishes):
        self.formulas = [ground_formula(task, formula, {}) for formula, _ in wishes]
        self.worths = [worth for _, worth in wishes]

    def held(self, state):
        """Returns the positions of the wishes that hold in a state."""
        holding, values = state
        return [position for position, formula in enumerate(self.formulas) if is_true(formula, holding, values)]

    def worth(self, state):
        """Returns the worth of a state."""
        return sum([self.worths[position] for position in self.held(state)])


def minimal_choices(worths, least):
    """Returns the choices of positions that are enough, and no longer so without any one of them, in their order."""
    found = []
    for many in range(1, len(worths) + 1):
        for choice in combinations(range(len(worths)), many):
            chosen = [worths[position] for position in choice]
            if sum(chosen) - min(chosen) < least <= sum(chosen):
                found.append(choice)
    return sorted(found)


def goal_for(wishes, least):
    """Returns the wish goal, whatever its size."""
    if least <= 0:
        return ("true",)
    choices = minimal_choices([worth for _, worth in wishes], least)
    if not choices:
        return ("false",)
    return ("or", tuple([("and", tuple([wishes[position][0] for position in choice])) for choice in choices]))


def backward_arcs(arcs):
    """Returns for each place the arcs that lead to it, each with the place from which it leads."""
    found = [[] for _ in arcs]
    for place, leaving in enumerate(arcs):
        for step, cost, target in leaving:
            found[target].append((step, cost, place))
    return found


def best_places(wishes, explored, budget):
    """Returns the greatest worth of the states within the budget, and the places of those that have it."""
    worths = {}
    for place, (cost, _) in enumerate(distances(backward_arcs(explored.arcs), [0])):
        if budget is None or cost <= budget:
            worths[place] = wishes.worth(explored.states[place])
    best = max(worths.values())
    return (best, [place for place in worths if worths[place] == best])


def held_wishes(task, wishes, state):
    """Returns the positions of the wishes that hold in the state, in ascending order."""
    check_wishes(task, wishes)
    check_state(task, state)
    return Wishes(task, wishes).held(state)


def worth_of(task, wishes, state):
    """Returns the worth of the state."""
    check_wishes(task, wishes)
    check_state(task, state)
    return Wishes(task, wishes).worth(state)


def wish_goal(task, wishes, least):
    """Returns a formula that holds in the states whose worth is at least the least worth."""
    check_wishes(task, wishes)
    if not is_integer(least):
        raise BadValue("least")
    goal = goal_for(wishes, least)
    # Its parts are formulas of the task, so only its size can be wrong.
    if not task.is_formula(goal):
        raise TooLarge("goal")
    return goal


def best_wishes(task, wishes, budget=None, state=None):
    """Returns (worth, cost, steps, held wishes) of the best choice."""
    check_wishes(task, wishes)
    check_budget(budget)
    explored = Explored(Grounded(task), checked_start(task, state))
    given = Wishes(task, wishes)
    worth, places = best_places(given, explored, budget)
    found = distances(explored.arcs, places)
    place = 0
    steps = first_steps(explored.arcs, found)
    for step in steps:
        place = [arc[2] for arc in explored.arcs[place] if arc[0] == step][0]
    return (worth, found[0][0], steps, given.held(explored.states[place]))

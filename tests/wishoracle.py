"""A second, direct reading of the chapter on wishes."""

from itertools import combinations

import oracle


def held(task, wishes, state):
    return [position for position, (formula, _) in enumerate(wishes) if oracle.true_in(task, formula, state)]


def worth(task, wishes, state):
    return sum(wishes[position][1] for position in held(task, wishes, state))


def best(task, wishes, budget, state):
    """The best of all lists of steps within the budget that pass no state twice; the others cost or take more."""
    found = []
    queue = [(0, [], [state])]
    while queue:
        cost, steps, states = queue.pop()
        found.append((-worth(task, wishes, states[-1]), cost, len(steps), steps, held(task, wishes, states[-1])))
        for step in range(len(task.all_steps())):
            answer = oracle.attempt(task, states[-1], step)
            if answer[0] == "done" and answer[3] not in states and (budget is None or cost + answer[1] <= budget):
                queue.append((cost + answer[1], steps + [step], states + [answer[3]]))
    worst, cost, _, steps, last = min(found)
    return (-worst, cost, steps, last)


def goal(wishes, least):
    def enough(choice):
        return sum(wishes[position][1] for position in choice) >= least
    if least <= 0:
        return ("true",)
    choices = [choice for many in range(len(wishes) + 1) for choice in combinations(range(len(wishes)), many)]
    minimal = [choice for choice in choices if enough(choice)
               and not any(enough([other for other in choice if other != position]) for position in choice)]
    if not minimal:
        return ("false",)
    return ("or", tuple(("and", tuple(wishes[position][0] for position in choice)) for choice in sorted(minimal)))

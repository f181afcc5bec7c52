"""A second, direct reading of the chapters on watching the rest of a plan and on repair."""

from itertools import combinations, product

import oracle
import orderoracle


def fault(task, steps, state):
    for position, step in enumerate(steps):
        answer = oracle.attempt(task, state, step)
        if answer[0] == "not":
            return ("step", position, answer[1])
        state = answer[3]
    return None if oracle.true_in(task, task.goal, state) else ("goal",)


def changed(state, word, index, given):
    """The state with one fact or number as it is said."""
    sides = [list(state[0]), list(state[1])]
    sides[word == "number"][index] = given
    return (tuple(sides[0]), tuple(sides[1]))


def after_seen(seen, state):
    for entry in seen:
        state = changed(state, *entry)
    return state


def threats(task, steps, state):
    if fault(task, steps, state) is not None:
        return None
    facts = [(index, fault(task, steps, changed(state, "fact", index, not answer)))
             for index, answer in enumerate(state[0])]
    spans = []
    for index, (_, _, low, high) in enumerate(task.all_numbers()):
        good = {value for value in range(low, high + 1)
                if fault(task, steps, changed(state, "number", index, value)) is None}
        intervals = [(index, least, most) for least in range(low, state[1][index] + 1)
                     for most in range(state[1][index], high + 1) if set(range(least, most + 1)) <= good]
        spans.append(max(intervals, key=lambda interval: interval[2] - interval[1]))
    return ([pair for pair in facts if pair[1] is not None], spans)


def all_states(task):
    ranges = [range(low, high + 1) for _, _, low, high in task.all_numbers()]
    for holding in product((True, False), repeat=len(task.all_facts())):
        for values in product(*ranges):
            yield (holding, values)


def nested(task, working, fixed=()):
    """The tree as nested tuples; the facts and numbers whose values are in `fixed` have been asked."""
    facts = len(task.all_facts())
    if len(fixed) < facts:
        first, second = nested(task, working, fixed + (True,)), nested(task, working, fixed + (False,))
        return first if first == second else ("fact", len(fixed), first, second)
    index = len(fixed) - facts
    if index == len(task.all_numbers()):
        return ("leaf", (fixed[:facts], fixed[facts:]) in working)
    _, _, low, high = task.all_numbers()[index]
    trees = [nested(task, working, fixed + (value,)) for value in range(low, high + 1)]
    tree = trees[-1]
    for value in range(high - 1, low - 1, -1):
        # Every value that is followed by another tree is the greatest one of its interval.
        if trees[value - low] != trees[value - low + 1]:
            tree = ("number", index, value, trees[value - low], tree)
    return tree


def flat(tree, at=0):
    """The list of the nodes of a nested tree whose root has an index."""
    if tree[0] == "leaf":
        return [tree]
    first = flat(tree[-2], at + 1)
    second = at + 1 + len(first)
    return [tree[:-2] + (second,)] + first + flat(tree[-1], second)


def needed(task, steps):
    return flat(nested(task, {state for state in all_states(task) if fault(task, steps, state) is None}))


def cases(task, steps):
    marks = {mark for step in steps for side, indexes in enumerate(orderoracle.reads(task, step))
             for mark in [(side, index) for index in indexes]}
    for side, indexes in enumerate(orderoracle.lists(orderoracle.standing(task, task.goal, False))):
        marks |= {(side, index) for index in indexes}
    many = 1
    for side, index in marks:
        many *= 2 if side == 0 else task.all_numbers()[index][3] - task.all_numbers()[index][2] + 1
    return many


def common_parts(old, new):
    """All common parts of two lists, as pairs of lists of positions."""
    return [(list(first), list(second)) for many in range(min(len(old), len(new)) + 1)
            for first in combinations(range(len(old)), many) for second in combinations(range(len(new)), many)
            if [old[position] for position in first] == [new[position] for position in second]]


def edit_count(old, new):
    return len(old) + len(new) - 2 * max(len(first) for first, _ in common_parts(old, new))


def kept_positions(old, new):
    return min((-len(first), first) for first, _ in common_parts(old, new))[1]


def plans_within(task, state, cost, most):
    """All plans of exactly this cost with at most so many steps."""
    found = []
    queue = [([], 0, state)]
    while queue:
        steps, total, now = queue.pop()
        if total == cost and oracle.true_in(task, task.goal, now):
            found.append(steps)
        if len(steps) < most:
            for step in range(len(task.all_steps())):
                answer = oracle.attempt(task, now, step)
                if answer[0] == "done" and total + answer[1] <= cost:
                    queue.append((steps + [step], total + answer[1], answer[3]))
    return found


def repair(task, steps, state):
    """The repair among the plans of least cost; longer ones than these have a greater edit count."""
    first = oracle.plan(task, state, task.goal)
    if first is None:
        return None
    cost, plan = first
    plans = plans_within(task, state, cost, len(steps) + edit_count(steps, plan))
    best = min((edit_count(steps, plan), len(plan), plan) for plan in plans)[2]
    return (cost, best, kept_positions(steps, best))

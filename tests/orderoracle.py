"""A second, direct reading of the chapter on orders and purposes and of point 84."""

from itertools import chain, combinations, permutations

import oracle


def run(task, steps, state, positions):
    """Runs the steps at some positions: the list of costs and times and the last state, or a position and a reason."""
    found = []
    for position in positions:
        answer = oracle.attempt(task, state, steps[position])
        if answer[0] == "not":
            return None, (position, answer[1])
        found.append((position, answer[1:3]))
        state = answer[3]
    return found, state


def goes_alike(task, steps, state, order):
    own, last = run(task, steps, state, range(len(steps)))
    found, reached = run(task, steps, state, order)
    return found is not None and sorted(found) == own and reached == last


def keeps(order, pairs):
    return all(order.index(i) < order.index(j) for i, j in pairs)


def implied(pair, pairs, many):
    return any((pair[0], k) in pairs and (k, pair[1]) in pairs for k in range(many))


def kept_pairs(task, steps, state):
    """The kept pairs, the direct pairs, the number of orders that keep them, and the witnesses."""
    many = len(steps)
    orders = [list(order) for order in permutations(range(many))]
    wrong = [order for order in orders if not goes_alike(task, steps, state, order)]
    kept = [(i, j) for i in range(many) for j in range(i + 1, many)]
    for pair in sorted(kept, key=lambda pair: (pair[1] - pair[0], pair[0])):
        others = [other for other in kept if other != pair]
        if not implied(pair, kept, many) and not any(keeps(order, others) for order in wrong):
            kept = others
    direct = [pair for pair in kept if not implied(pair, kept, many)]
    witnesses = [min(order for order in wrong if keeps(order, [other for other in kept if other != pair]))
                 for pair in direct]
    return kept, direct, len([order for order in orders if keeps(order, direct)]), witnesses


def purposes(task, steps, state):
    found = []
    for position in range(len(steps)):
        done, last = run(task, steps, state, [one for one in range(len(steps)) if one != position])
        if done is None:
            found.append(("step",) + last)
        else:
            found.append(("nothing",) if oracle.true_in(task, task.goal, last) else ("goal",))
    return found


def cheapest_part(task, steps, state):
    found = []
    for part in chain(*[combinations(range(len(steps)), many) for many in range(len(steps) + 1)]):
        done, last = run(task, steps, state, part)
        if done is not None and oracle.true_in(task, task.goal, last):
            found.append((sum(cost for _, (cost, _) in done), len(part), list(part)))
    if not found:
        return None
    cost, _, part = min(found)
    return (cost, part)


def standing(task, node, is_effect):
    """The facts and numbers that a formula, an amount or an effect reads, as pairs of a word and an index."""
    word = node[0]
    if word in ("all", "some", "each"):
        inner = (node[2],) if word != "each" else node[2]
        return {mark for binding in oracle.bindings(task, node[1]) for part in inner
                for mark in standing(task, oracle.bind(part, binding), is_effect)}
    if word == "fact":
        return {("fact", task.all_facts().index(node[1:]))}
    if word in ("true", "false", "same", "int", "make", "unmake"):
        return set()
    names = [number[:2] for number in task.all_numbers()]
    if word == "number":
        return {("number", names.index(node[1:]))}
    if word in ("set", "add", "take"):
        own = set() if word == "set" else {("number", names.index(node[1:3]))}
        return own | standing(task, node[3], False)
    if word == "when":
        parts = (node[1],) + node[2]
    elif word in ("and", "or", "plus"):
        parts = node[1]
    else:
        parts = [part for part in node[1:] if isinstance(part, tuple)]
    return {mark for part in parts for mark in standing(task, part, is_effect)}


def lists(marks):
    return tuple(sorted(index for kind, index in marks if kind == word) for word in ("fact", "number"))


def reads(task, step):
    marks = standing(task, task.condition_of(step), False)
    for part in task.effects_of(step) + (task.cost_of(step), task.time_of(step)):
        marks = marks | standing(task, part, True)
    return lists(marks)


def writes(task, state, step):
    return lists({("fact" if word in ("make", "unmake") else "number", index)
                  for word, index, _ in oracle.collected(task, task.effects_of(step), state)})

"""A second, direct reading of the document, against which the program is compared."""

from itertools import product


def bind(formula, binding):
    """Puts objects in place of variables, in any nested tuple."""
    if isinstance(formula, tuple):
        return tuple(bind(part, binding) for part in formula)
    return binding.get(formula, formula) if isinstance(formula, str) else formula


def bindings(task, pairs):
    for chosen in product(*[task.objects_of(kind) for _, kind in pairs]):
        yield dict(zip([variable for variable, _ in pairs], chosen))


def value(task, amount, state):
    word = amount[0]
    if word == "int":
        return amount[1]
    if word == "number":
        return state[1][[(name, args) for name, args, _, _ in task.all_numbers()].index(amount[1:])]
    if word == "plus":
        return sum(value(task, part, state) for part in amount[1])
    if word == "minus":
        return value(task, amount[1], state) - value(task, amount[2], state)
    return amount[1] * value(task, amount[2], state)


def true_in(task, formula, state):
    word = formula[0]
    if word in ("true", "false"):
        return word == "true"
    if word == "fact":
        return state[0][task.all_facts().index(formula[1:])]
    if word == "not":
        return not true_in(task, formula[1], state)
    if word == "and":
        return all(true_in(task, part, state) for part in formula[1])
    if word == "or":
        return any(true_in(task, part, state) for part in formula[1])
    if word == "implies":
        return not true_in(task, formula[1], state) or true_in(task, formula[2], state)
    if word == "all":
        return all(true_in(task, bind(formula[2], binding), state) for binding in bindings(task, formula[1]))
    if word == "some":
        return any(true_in(task, bind(formula[2], binding), state) for binding in bindings(task, formula[1]))
    if word == "same":
        return formula[1] == formula[2]
    left, right = value(task, formula[1], state), value(task, formula[2], state)
    return {"le": left <= right, "lt": left < right, "ge": left >= right, "gt": left > right,
            "eq": left == right}[word]


def collected(task, effects, state):
    """The list of the effects that are collected, with values in place of amounts."""
    found = []
    for effect in effects:
        if effect[0] == "when":
            if true_in(task, effect[1], state):
                found += collected(task, effect[2], state)
        elif effect[0] == "each":
            for binding in bindings(task, effect[1]):
                found += collected(task, bind(effect[2], binding), state)
        elif effect[0] in ("make", "unmake"):
            found.append((effect[0], task.fact_index(effect[1], effect[2]), None))
        else:
            found.append((effect[0], task.number_index(effect[1], effect[2]), value(task, effect[3], state)))
    return found


def attempt(task, state, step):
    """What try_step is to return."""
    if not true_in(task, task.condition_of(step), state):
        return ("not", ("condition",))
    found = collected(task, task.effects_of(step), state)
    holding, numbers = list(state[0]), list(state[1])
    for fact in range(len(holding)):
        words = {word for word, index, _ in found if index == fact and word in ("make", "unmake")}
        if len(words) == 2:
            return ("not", ("both", fact))
        if words:
            holding[fact] = words == {"make"}
    for number in range(len(numbers)):
        sets = {amount for word, index, amount in found if index == number and word == "set"}
        adds = [amount if word == "add" else -amount for word, index, amount in found
                if index == number and word in ("add", "take")]
        if len(sets) > 1 or sets and adds:
            return ("not", ("two ways", number))
        numbers[number] = sets.pop() if sets else numbers[number] + sum(adds)
    for number, (_, _, low, high) in enumerate(task.all_numbers()):
        if not low <= numbers[number] <= high:
            return ("not", ("range", number))
    cost, time = value(task, task.cost_of(step), state), value(task, task.time_of(step), state)
    if cost < 0:
        return ("not", ("cost",))
    if time < 1:
        return ("not", ("time",))
    return ("done", cost, time, (tuple(holding), tuple(numbers)))


def reached(task, state):
    states = [state]
    for now in states:
        for step in range(len(task.all_steps())):
            answer = attempt(task, now, step)
            if answer[0] == "done" and answer[3] not in states:
                states.append(answer[3])
    return states


def plan(task, state, goal):
    """The first plan, by repeatedly lengthening lists of steps without equal states."""
    best = None
    queue = [(0, [], [state])]
    while queue:
        cost, steps, states = queue.pop()
        if true_in(task, goal, states[-1]) and (best is None or (cost, len(steps), steps) < best):
            best = (cost, len(steps), steps)
        for step in range(len(task.all_steps())):
            answer = attempt(task, states[-1], step)
            if answer[0] == "done" and answer[3] not in states:
                queue.append((cost + answer[1], steps + [step], states + [answer[3]]))
    return best and (best[0], best[2])

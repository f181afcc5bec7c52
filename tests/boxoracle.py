"""A second, direct reading of the chapter on boxes, against which the program is compared."""

from itertools import product

import oracle


def states_in(box):
    """All states in a box."""
    facts = [(True, False) if entry is None else (entry,) for entry in box[0]]
    numbers = [range(low, high + 1) for low, high in box[1]]
    for holding in product(*facts):
        for values in product(*numbers):
            yield (holding, values)


def form(task, amount):
    """The constant and the factors of an amount."""
    word = amount[0]
    many = len(task.all_numbers())
    if word == "int":
        return [amount[1]] + [0] * many
    if word == "number":
        index = task.number_index(amount[1], amount[2])
        return [0] + [1 if place == index else 0 for place in range(many)]
    if word == "plus":
        return [sum(column) for column in zip(*[[0] * (many + 1)] + [form(task, part) for part in amount[1]])]
    if word == "minus":
        return [a - b for a, b in zip(form(task, amount[1]), form(task, amount[2]))]
    return [amount[1] * a for a in form(task, amount[2])]


def ends(linear, box):
    low = linear[0] + sum(min(f * a, f * b) for f, (a, b) in zip(linear[1:], box[1]))
    high = linear[0] + sum(max(f * a, f * b) for f, (a, b) in zip(linear[1:], box[1]))
    return (low, high)


def inequality(task, formula):
    word, left, right = formula
    a, b = form(task, left), form(task, right)
    if word in ("ge", "gt"):
        a, b = b, a
    linear = [x - y for x, y in zip(a, b)]
    return [linear[0] + (1 if word in ("lt", "gt") else 0)] + linear[1:]


def parts(task, formula):
    """The word "and" or "or" with the parts, or None if the formula is neither."""
    word = formula[0]
    if word in ("and", "or"):
        return (word, formula[1])
    if word == "implies":
        return ("or", (("not", formula[1]), formula[2]))
    if word == "eq":
        return ("and", (("le",) + formula[1:], ("ge",) + formula[1:]))
    if word in ("all", "some"):
        found = [oracle.bind(formula[2], binding) for binding in oracle.bindings(task, formula[1])]
        return ("and" if word == "all" else "or", found)
    return None


def judged(task, formula, box):
    word = formula[0]
    several = parts(task, formula)
    if several is not None:
        verdicts = [judged(task, part, box) for part in several[1]]
        first, second = ("never", "sure") if several[0] == "and" else ("sure", "never")
        return first if first in verdicts else second if set(verdicts) <= {second} else "open"
    if word in ("true", "false", "same"):
        return "sure" if word == "true" or word == "same" and formula[1] == formula[2] else "never"
    if word == "fact":
        return {True: "sure", False: "never", None: "open"}[box[0][task.fact_index(formula[1], formula[2])]]
    if word == "not":
        return {"sure": "never", "never": "sure", "open": "open"}[judged(task, formula[1], box)]
    low, high = ends(inequality(task, formula), box)
    return "sure" if high <= 0 else "never" if low > 0 else "open"


def cut(task, formula, box, wanted):
    word = formula[0]
    several = parts(task, formula)
    if several is not None:
        if (several[0] == "and") == wanted:
            for part in several[1]:
                box = box and cut(task, part, box, wanted)
            return box
        cuts = [cut(task, part, box, wanted) for part in several[1]]
        left = [one for one in cuts if one is not None]
        return None if not left else left[0] if len(left) == 1 else box
    if word == "not":
        return cut(task, formula[1], box, not wanted)
    if word in ("true", "false", "same"):
        return box if (judged(task, formula, box) == "sure") == wanted else None
    if word == "fact":
        index = task.fact_index(formula[1], formula[2])
        if box[0][index] not in (None, wanted):
            return None
        return (box[0][:index] + (wanted,) + box[0][index + 1:], box[1])
    linear = inequality(task, formula)
    if not wanted:
        linear = [1 - linear[0]] + [-factor for factor in linear[1:]]
    used = [index for index, factor in enumerate(linear[1:]) if factor != 0]
    if len(used) != 1:
        return None if ends(linear, box)[0] > 0 else box
    low, high = box[1][used[0]]
    good = [v for v in range(low, high + 1) if linear[0] + linear[1 + used[0]] * v <= 0]
    return (box[0], box[1][:used[0]] + ((good[0], good[-1]),) + box[1][used[0] + 1:]) if good else None


def gathered(task, effects, box, certain):
    """The list of the effects that are gathered: word, index, span of the amount, whether it is certain."""
    found = []
    for effect in effects:
        word = effect[0]
        if word == "when":
            verdict = judged(task, effect[1], box)
            if verdict != "never":
                found += gathered(task, effect[2], box, certain and verdict == "sure")
        elif word == "each":
            for binding in oracle.bindings(task, effect[1]):
                found += gathered(task, oracle.bind(effect[2], binding), box, certain)
        elif word in ("make", "unmake"):
            found.append((word, task.fact_index(effect[1], effect[2]), None, certain))
        else:
            amount = ("times", -1, effect[3]) if word == "take" else effect[3]
            found.append(("set" if word == "set" else "add", task.number_index(effect[1], effect[2]),
                          ends(form(task, amount), box), certain))
    return found


def step_from(task, step, box):
    rest = cut(task, task.condition_of(step), box, True)
    if rest is None or judged(task, task.condition_of(step), rest) == "never":
        return None
    found = gathered(task, task.effects_of(step), rest, True)

    def spans(word, index, certain):
        return [span for one, place, span, sure in found if (one, place, sure) == (word, index, certain)]
    facts = []
    for index, entry in enumerate(rest[0]):
        made, unmade = spans("make", index, True), spans("unmake", index, True)
        if made and unmade:
            return None
        is_open = spans("make", index, False) and entry is not True or spans("unmake", index, False) and entry is not False
        facts.append(True if made else False if unmade else None if is_open else entry)
    after = []
    for index, (low, high) in enumerate(rest[1]):
        sets, adds = spans("set", index, True), spans("add", index, True)
        if sets and adds:
            return None
        if sets:
            low, high = max(span[0] for span in sets), min(span[1] for span in sets)
        else:
            low += sum(span[0] for span in adds) + sum(min(0, span[0]) for span in spans("add", index, False))
            high += sum(span[1] for span in adds) + sum(max(0, span[1]) for span in spans("add", index, False))
            if not adds:
                low = min([low] + [span[0] for span in spans("set", index, False)])
                high = max([high] + [span[1] for span in spans("set", index, False)])
        least, most = task.all_numbers()[index][2:]
        after.append((max(low, least), min(high, most)))
    cost, time = ends(form(task, task.cost_of(step)), rest), ends(form(task, task.time_of(step)), rest)
    if cost[1] < 0 or time[1] < 1 or any(low > high for low, high in after):
        return None
    return (max(0, cost[0]), (tuple(facts), tuple(after)))


def outline(task, state):
    facts, values = state
    box = (facts, tuple((v, v) for v in values))
    while True:
        boxes = [box]
        for step in range(len(task.all_steps())):
            answer = step_from(task, step, box)
            boxes += [answer[1]] if answer else []
        entries = tuple(column[0] if len(set(column)) == 1 else None for column in zip(*[one[0] for one in boxes]))
        spans = tuple((min(a for a, _ in column), max(b for _, b in column)) for column in zip(*[one[1] for one in boxes]))
        if (entries, spans) == box:
            return box
        box = (entries, spans)

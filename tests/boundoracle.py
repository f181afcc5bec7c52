"""A second, direct reading of the chapter on lower bounds, against which the program is compared."""

from fractions import Fraction
from itertools import product

import boxoracle
from judgeoracle import common

NEVER = float("inf")


def box_of(state):
    return (state[0], tuple((value, value) for value in state[1]))


def hull(boxes):
    facts = tuple(column[0] if len(set(column)) == 1 else None for column in zip(*[box[0] for box in boxes]))
    spans = tuple((min(a for a, _ in column), max(b for _, b in column)) for column in zip(*[box[1] for box in boxes]))
    return (facts, spans)


def inside(first, second):
    return common(first, second) == first


def may_hold(task, formula, box):
    left = boxoracle.cut(task, formula, box, True)
    return left is not None and boxoracle.judged(task, formula, left) != "never"


def moves(task, box):
    answers = [(step, boxoracle.step_from(task, step, box)) for step in range(len(task.all_steps()))]
    return [(step,) + answer for step, answer in answers if answer]


def groups(task, states):
    """The groups, for the list of the states that are reached."""
    def excludes(a, b):
        return not any(state[0][a] and state[0][b] for state in states)
    left = [fact for fact in range(len(task.all_facts())) if any(state[0][fact] for state in states)]
    found = []
    while left:
        new = [left[0]]
        for fact in left[1:]:
            if all(excludes(fact, other) for other in new):
                new.append(fact)
        if len(new) >= 2:
            found.append((new, all(any(state[0][fact] for fact in new) for state in states)))
        left = [fact for fact in left if fact not in new]
    return found


def levels(task, state):
    """The levels and the level bound."""
    found = [(0, box_of(state))]
    while not may_hold(task, task.goal, found[-1][1]):
        last = found[-1][1]
        pairs = [(cost + least, after) for cost, box in found for _, least, after in moves(task, box)
                 if not inside(after, last)]
        if not pairs:
            return found, None
        least = min(cost for cost, _ in pairs)
        found.append((least, hull([last] + [after for cost, after in pairs if cost == least])))
    return found, found[-1][0]


def left(rest, cost):
    return int(rest * cost)


def closed(task, rests, state):
    box = box_of(state)
    while True:
        wider = hull([box] + [after for step, cost, after in moves(task, box) if left(rests[step], cost) == 0])
        if wider == box:
            return box
        box = wider


def cuts(task, state):
    """The cuts and the cut bound."""
    rests = [Fraction(1)] * len(task.all_steps())
    found = []
    while True:
        box = closed(task, rests, state)
        if may_hold(task, task.goal, box):
            return found, sum(cut[0] for cut in found)
        leading = [(step, cost) for step, cost, after in moves(task, box) if not inside(after, box)]
        if not leading:
            return found + [(None, box, [])], None
        amount = min(left(rests[step], cost) for step, cost in leading)
        for step, cost in leading:
            rests[step] -= Fraction(amount, cost)
        found.append((amount, box, leading))


def parts(task, pattern, state):
    """The boxes of the parts of a pattern, in their order."""
    outline = boxoracle.outline(task, state)
    options = [(True, False) if word == "fact" else range(outline[1][index][0], outline[1][index][1] + 1)
               for word, index in pattern]
    found = []
    for chosen in product(*options):
        facts, spans = list(outline[0]), list(outline[1])
        for (word, index), option in zip(pattern, chosen):
            if word == "number":
                spans[index] = (option, option)
            elif facts[index] in (None, option):
                facts[index] = option
            else:
                break
        else:
            found.append((tuple(facts), tuple(spans)))
    return found


def projections(task, patterns, state):
    """The parts with their costs to go, and the projection bound."""
    rests = [Fraction(1)] * len(task.all_steps())
    found, bound = [], 0
    for pattern in patterns:
        boxes = parts(task, pattern, state)
        ways = [(a, b, step, cost) for a in range(len(boxes)) for step, cost, after in moves(task, boxes[a])
                for b in range(len(boxes)) if common(after, boxes[b])]
        to_go = [0 if may_hold(task, task.goal, box) else NEVER for box in boxes]
        before = None
        while to_go != before:
            before = list(to_go)
            for a, b, step, cost in ways:
                to_go[a] = min(to_go[a], to_go[b] + left(rests[step], cost))
        quotients = [Fraction(0)] * len(rests)
        for a, b, step, cost in ways:
            if to_go[b] < to_go[a] < NEVER:
                quotients[step] = max(quotients[step], Fraction(to_go[a] - to_go[b], cost))
        rests = [rest - quotient for rest, quotient in zip(rests, quotients)]
        found.append([(box, None if cost == NEVER else cost) for box, cost in zip(boxes, to_go)])
        bound += [cost for box, cost in zip(boxes, to_go) if common(box, box_of(state))][0]
    return found, None if bound == NEVER else bound

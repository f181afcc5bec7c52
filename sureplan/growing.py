"""Grows trees that give single states their labels, and all other states the label 0."""

from sureplan.entries import with_fact, with_number
from sureplan.nesting import narrowing


def hull_of(states):
    """Returns the smallest box that contains all of the states."""
    holdings = [state[0] for state in states]
    rows = [state[1] for state in states]
    facts = [column[0] if column.count(column[0]) == len(column) else None for column in zip(*holdings)]
    spans = [(min(column), max(column)) for column in zip(*rows)]
    return (tuple(facts), tuple(spans))


def middle_split(box):
    """Returns a split that leaves something of a box on both sides."""
    for index, entry in enumerate(box[0]):
        if entry is None:
            return ("fact", index)
    for index, (low, high) in enumerate(box[1]):
        if low < high:
            return ("number", index, (low + high) // 2)
    return None


def side_of(line, box, is_first):
    """Returns what a split leaves of a box on one of its sides."""
    index = line[1]
    if line[0] == "fact":
        return with_fact(box, index, is_first)
    low, high = box[1][index]
    return with_number(box, index, (low, line[2]) if is_first else (line[2] + 1, high))


def is_first_side(line, state):
    """Tells if a state is on the first side of a split."""
    if line[0] == "fact":
        return state[0][line[1]]
    return state[1][line[1]] <= line[2]


def groups_behind(line, states, box):
    """Returns the groups on both sides of a split, the second one first, as pairs of states and a box."""
    found = []
    for is_first in (False, True):
        chosen = [state for state in states if is_first_side(line, state) == is_first]
        found.append((chosen, side_of(line, box, is_first)))
    return found


def grown(whole, labels):
    """Returns the lines of a tree for a dict of states and their labels."""
    lines = []
    groups = [(list(labels), whole)]
    while groups:
        states, box = groups.pop()
        if not states:
            lines.append(("label", 0))
            continue
        inner = hull_of(states)
        for line, is_first in narrowing(box, inner):
            lines.append(line)
            if is_first:
                groups.append(([], inner))
            else:
                lines.append(("label", 0))
        if len(states) == 1:
            lines.append(("label", labels[states[0]]))
        else:
            line = middle_split(inner)
            lines.append(line)
            groups.extend(groups_behind(line, states, inner))
    return lines

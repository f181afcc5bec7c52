"""Groups of facts that exclude each other (point 63)."""

from sureplan.checks import check_state
from sureplan.exploring import Explored
from sureplan.grounded import Grounded


def mark_of(facts):
    """Returns the integer that has the bits of these facts."""
    return sum([1 << index for index in facts])


def marks_of(states):
    """Returns for each state the integer that has the bits of the facts that hold in it."""
    return [mark_of([index for index, entry in enumerate(holding) if entry]) for holding, _ in states]


def companions(marks, index):
    """Returns the integer that has the bits of the facts that hold together with a fact in some state."""
    found = 0
    for mark in marks:
        if mark & (1 << index) != 0:
            found |= mark
    return found


def lists_of(together):
    """Returns the lists of facts of which each two exclude each other, in the order in which they are begun."""
    found = []
    # A fact that holds in no state has no companions, not even itself.
    free = [index for index, mark in enumerate(together) if mark != 0]
    while free:
        chosen = []
        excluded = 0
        for index in free:
            if excluded & (1 << index) == 0:
                chosen.append(index)
                excluded |= together[index]
        found.append(chosen)
        free = [index for index in free if index not in chosen]
    return found


def groups(task, state):
    """Returns the groups of the state: pairs of a list of facts and of whether one of them always holds."""
    check_state(task, state)
    marks = marks_of(Explored(Grounded(task), state).states)
    together = [companions(marks, index) for index in range(len(state[0]))]
    found = []
    for chosen in lists_of(together):
        if len(chosen) > 1:
            bits = mark_of(chosen)
            found.append((chosen, all([mark & bits != 0 for mark in marks])))
    return found

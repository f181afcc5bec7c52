"""Boxes: sets of states that say of each fact what it is, or leave it open, and give each number a span."""


def whole_box(task):
    """Returns the box of all states of the task."""
    spans = tuple([number[2:] for number in task.all_numbers()])
    return ((None,) * len(task.all_facts()), spans)


def box_of_state(state):
    """Returns the box that contains the state alone."""
    holding, values = state
    return (holding, tuple([(value, value) for value in values]))


def common_box(first, second):
    """Returns the box of the states that are in both boxes, or None if there are none."""
    facts = []
    for entry, other in zip(first[0], second[0]):
        if entry is not None and other is not None and entry != other:
            return None
        facts.append(other if entry is None else entry)
    spans = []
    for (low, high), (other_low, other_high) in zip(first[1], second[1]):
        span = (max(low, other_low), min(high, other_high))
        if span[0] > span[1]:
            return None
        spans.append(span)
    return (tuple(facts), tuple(spans))


def meets(first, second):
    """Tells if two boxes have a common box."""
    for entry, other in zip(first[0], second[0]):
        if entry != other and entry is not None and other is not None:
            return False
    for (low, high), (other_low, other_high) in zip(first[1], second[1]):
        if low > other_high or high < other_low:
            return False
    return True


def hull(first, second):
    """Returns the smallest box that contains both boxes."""
    facts = [entry if entry == other else None for entry, other in zip(first[0], second[0])]
    spans = [(min(low, other_low), max(high, other_high))
             for (low, high), (other_low, other_high) in zip(first[1], second[1])]
    return (tuple(facts), tuple(spans))


def lies_in(first, second):
    """Tells if every state of the first box is in the second box."""
    for entry, other in zip(first[0], second[0]):
        if other is not None and entry != other:
            return False
    for (low, high), (other_low, other_high) in zip(first[1], second[1]):
        if low < other_low or high > other_high:
            return False
    return True


def in_box(state, box):
    """Tells if the state is in the box."""
    return lies_in(box_of_state(state), box)

"""Puts other entries into states and boxes, which are pairs of facts and numbers."""


def with_fact(pair, index, entry):
    """Returns the state or the box with this entry for a fact."""
    facts, numbers = pair
    return (facts[:index] + (entry,) + facts[index + 1:], numbers)


def with_number(pair, index, entry):
    """Returns the state or the box with this entry, a value or a span, for a number."""
    facts, numbers = pair
    return (facts, numbers[:index] + (entry,) + numbers[index + 1:])

"""Watches whether the rest of a plan still works (points 89 to 92)."""

from sureplan.checks import check_state
from sureplan.entries import with_fact, with_number
from sureplan.errors import BadValue
from sureplan.names import is_integer
from sureplan.ownruns import check_listed
from sureplan.rests import MOST_STEPS, Rest


def is_index(value, many):
    return is_integer(value) and 0 <= value < many


def is_entry(task, entry):
    """Tells if the value has the form of an entry of what was seen."""
    if not isinstance(entry, tuple) or len(entry) != 3:
        return False
    word, index, given = entry
    if word == "fact":
        return is_index(index, len(task.all_facts())) and (given is True or given is False)
    if word != "number" or not is_index(index, len(task.all_numbers())):
        return False
    low, high = task.all_numbers()[index][2:]
    return is_integer(given) and low <= given <= high


def check_seen(task, seen):
    """Raises an error if the value is not something seen."""
    if not isinstance(seen, tuple) or not all([is_entry(task, entry) for entry in seen]):
        raise BadValue("seen")
    if len({entry[:2] for entry in seen}) < len(seen):
        raise BadValue("seen")


def seen_state(seen, state):
    """Returns the state after what was seen."""
    for word, index, given in seen:
        state = with_fact(state, index, given) if word == "fact" else with_number(state, index, given)
    return state


def works_while(rest, state, number, values):
    """Returns how many of the values, from the first one on, leave the rest working."""
    for count, value in enumerate(values):
        if rest.fault(with_number(state, number, value)) is not None:
            return count
    return len(values)


def span_of_number(rest, state, number, bounds):
    """Returns the number and the ends of its span."""
    low, high = bounds
    value = state[1][number]
    below = works_while(rest, state, number, list(reversed(range(low, value))))
    above = works_while(rest, state, number, list(range(value + 1, high + 1)))
    return (number, value - below, value + above)


def works(task, steps, state):
    """Returns None if the rest works in the state, otherwise its fault."""
    check_listed(task, steps, MOST_STEPS)
    check_state(task, state)
    return Rest(task, steps).fault(state)


def after_seen(task, seen, state):
    """Returns the state after what was seen."""
    check_seen(task, seen)
    check_state(task, state)
    return seen_state(seen, state)


def threats(task, steps, state):
    """Returns the facts that are threats with their faults, and the spans of the numbers, or None."""
    check_listed(task, steps, MOST_STEPS)
    check_state(task, state)
    rest = Rest(task, steps)
    if rest.fault(state) is not None:
        return None
    facts, numbers = rest.marks()
    faults = [(fact, rest.fault(with_fact(state, fact, not state[0][fact]))) for fact in facts]
    spans = []
    for number, entry in enumerate(task.all_numbers()):
        bounds = entry[2:]
        # Nothing depends on a number that is not read.
        spans.append(span_of_number(rest, state, number, bounds) if number in numbers else (number,) + bounds)
    return ([pair for pair in faults if pair[1] is not None], spans)

"""Patterns: the facts and numbers that a projection tells apart (point 68)."""

from sureplan.choices import choices
from sureplan.entries import with_fact, with_number
from sureplan.errors import BadValue, TooLarge
from sureplan.names import is_integer

MOST_PATTERNS = 4
MOST_ITEMS = 8
LARGEST_SIZE = 500


def is_item(item, facts, numbers):
    """Tells if the value is an item of a pattern for a task with so many facts and numbers."""
    if not isinstance(item, tuple) or len(item) != 2 or not is_integer(item[1]):
        return False
    if item[0] == "fact":
        return 0 <= item[1] < facts
    return item[0] == "number" and 0 <= item[1] < numbers


def is_pattern(pattern, facts, numbers):
    if not isinstance(pattern, list) or len(pattern) > MOST_ITEMS:
        return False
    if not all([is_item(item, facts, numbers) for item in pattern]):
        return False
    return len(set(pattern)) == len(pattern)


def check_patterns(task, patterns):
    """Raises BadValue("patterns") if the value is not a list of 1 to 4 patterns."""
    if not isinstance(patterns, list) or not 1 <= len(patterns) <= MOST_PATTERNS:
        raise BadValue("patterns")
    facts = len(task.all_facts())
    numbers = len(task.all_numbers())
    if not all([is_pattern(pattern, facts, numbers) for pattern in patterns]):
        raise BadValue("patterns")


def size_of(pattern, box):
    """Returns the size of a pattern in an outline."""
    size = 1
    for word, index in pattern:
        low, high = (0, 1) if word == "fact" else box[1][index]
        size *= high - low + 1
    return size


def check_sizes(patterns, box):
    """Raises TooLarge("pattern") if a pattern is too large in an outline."""
    for pattern in patterns:
        if size_of(pattern, box) > LARGEST_SIZE:
            raise TooLarge("pattern")


def options_in(item, box):
    """Returns the list of what an item can be in a box: True before False, and values in ascending order."""
    word, index = item
    if word == "number":
        low, high = box[1][index]
        return list(range(low, high + 1))
    entry = box[0][index]
    return [True, False] if entry is None else [entry]


def options_of(pattern, box):
    """Returns what each item of a pattern can be in a box."""
    return [options_in(item, box) for item in pattern]


def part_of(pattern, chosen, box):
    """Returns the box in which the items of a pattern are what is chosen for them."""
    for (word, index), option in zip(pattern, chosen):
        if word == "fact":
            box = with_fact(box, index, option)
        else:
            box = with_number(box, index, (option, option))
    return box


def parts_of(pattern, box):
    """Returns the tuples of what the items of a pattern can be together in a box, in the order of the parts."""
    return choices(options_of(pattern, box))

"""Checks the first five parts of a task: kinds, objects, facts, numbers and resources (point 17)."""

from sureplan.errors import BadTask
from sureplan.names import LARGEST, is_integer, is_kind_name, is_name, is_reserved, is_small, is_string_pair, is_strings

MOST_KINDS = 12
MOST_OBJECTS = 30
MOST_FACT_ENTRIES = 12
MOST_FACTS = 120
MOST_NUMBER_ENTRIES = 8
MOST_NUMBERS = 30
MOST_RESOURCE_ENTRIES = 8
MOST_RESOURCES = 60
MOST_ARGUMENT_KINDS = 4
WIDEST_RANGE = 200


def check_part(declared, part, entries, most, problem, declare):
    """Checks the entries of a part one after another, and declares each of them."""
    if not isinstance(entries, tuple):
        raise BadTask((part,), "form")
    if len(entries) > most:
        raise BadTask((part,), "many")
    for index, entry in enumerate(entries):
        why = problem(declared, entry)
        if why is not None:
            raise BadTask((part, index), why)
        declare(declared, entry)


def check_total(declared, part, kinds, most):
    """Raises the problem of a part that declares too many things: one for each choice of objects."""
    if sum([declared.count_choices(each) for each in kinds]) > most:
        raise BadTask((part,), "many")


def kind_problem(declared, entry):
    if not is_string_pair(entry):
        return "form"
    if not is_kind_name(entry[0]):
        return "name"
    if declared.is_kind(entry[0]):
        return "duplicate"
    return None if declared.is_kind(entry[1]) else "kind"


def name_problem(declared, name):
    """Returns the problem of the name of an object, a fact or a number, or None."""
    if not is_name(name) or is_reserved(name):
        return "name"
    return "duplicate" if declared.is_taken(name) else None


def object_problem(declared, entry):
    if not is_string_pair(entry):
        return "form"
    why = name_problem(declared, entry[0])
    if why is not None:
        return why
    return None if declared.is_kind(entry[1]) else "kind"


def kinds_problem(declared, kinds):
    """Returns the problem of the kinds of the arguments of an entry, or None."""
    if len(kinds) > MOST_ARGUMENT_KINDS:
        return "count"
    for kind in kinds:
        if not declared.is_kind(kind):
            return "kind"
    return None


def begins_with_call(entry, length):
    """Tells if the entry is a tuple of this length that begins with a string and a tuple of strings."""
    if not isinstance(entry, tuple) or len(entry) != length:
        return False
    return isinstance(entry[0], str) and is_strings(entry[1])


def fact_problem(declared, entry):
    if not begins_with_call(entry, 2):
        return "form"
    why = name_problem(declared, entry[0])
    return kinds_problem(declared, entry[1]) if why is None else why


def range_problem(low, high):
    if not is_small(low) or not is_small(high):
        return "range"
    return None if 0 <= high - low <= WIDEST_RANGE else "range"


def number_problem(declared, entry):
    if not begins_with_call(entry, 4) or not is_integer(entry[2]) or not is_integer(entry[3]):
        return "form"
    why = name_problem(declared, entry[0])
    if why is None:
        why = kinds_problem(declared, entry[1])
    return range_problem(entry[2], entry[3]) if why is None else why


def resource_problem(declared, entry):
    if not begins_with_call(entry, 3) or not is_integer(entry[2]):
        return "form"
    if not is_name(entry[0]):
        return "name"
    if entry[0] in declared.resources:
        return "duplicate"
    why = kinds_problem(declared, entry[1])
    if why is not None:
        return why
    return None if 1 <= entry[2] <= LARGEST else "range"


def declare_kind(declared, entry):
    declared.add_kind(entry[0], entry[1])


def declare_object(declared, entry):
    declared.add_object(entry[0], entry[1])


def declare_fact(declared, entry):
    declared.facts[entry[0]] = entry[1]


def declare_number(declared, entry):
    declared.numbers[entry[0]] = entry[1]
    declared.ranges[entry[0]] = entry[2:]


def declare_resource(declared, entry):
    declared.resources[entry[0]] = entry[1]
    declared.capacities[entry[0]] = entry[2]


def check_kinds(declared, kinds):
    check_part(declared, "kinds", kinds, MOST_KINDS, kind_problem, declare_kind)


def check_objects(declared, objects):
    check_part(declared, "objects", objects, MOST_OBJECTS, object_problem, declare_object)


def check_facts(declared, facts):
    check_part(declared, "facts", facts, MOST_FACT_ENTRIES, fact_problem, declare_fact)
    check_total(declared, "facts", [entry[1] for entry in facts], MOST_FACTS)


def check_numbers(declared, numbers):
    check_part(declared, "numbers", numbers, MOST_NUMBER_ENTRIES, number_problem, declare_number)
    check_total(declared, "numbers", [entry[1] for entry in numbers], MOST_NUMBERS)


def check_resources(declared, resources):
    check_part(declared, "resources", resources, MOST_RESOURCE_ENTRIES, resource_problem, declare_resource)
    check_total(declared, "resources", [entry[1] for entry in resources], MOST_RESOURCES)

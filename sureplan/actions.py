"""Checks the actions, the start and the goal of a task (points 17 and 18)."""

from sureplan.errors import BadTask
from sureplan.names import LARGEST, is_integer, is_name, is_string_pairs
from sureplan.nodes import call_problem, check_nodes, pairs_problem, widened
from sureplan.parts import begins_with_call, check_part, check_total

MOST_ACTIONS = 12
MOST_STEPS = 400
MOST_PARAMETERS = 4
MOST_USES = 4


def action_problem(declared, entry):
    if not isinstance(entry, tuple) or len(entry) != 7 or not isinstance(entry[0], str):
        return "form"
    if not is_name(entry[0]):
        return "name"
    return "duplicate" if entry[0] in declared.actions else None


def parameters_problem(declared, parameters):
    if not is_string_pairs(parameters):
        return "form"
    if len(parameters) > MOST_PARAMETERS:
        return "count"
    return pairs_problem(declared, parameters, {})


def use_problem(declared, use, scope):
    if not begins_with_call(use, 3) or not is_integer(use[2]):
        return "form"
    why = call_problem(declared, declared.resources, use[0], use[1], scope)
    if why is not None:
        return why
    return None if 1 <= use[2] <= LARGEST else "range"


def uses_problem(declared, uses, scope):
    if not isinstance(uses, tuple):
        return "form"
    if len(uses) > MOST_USES:
        return "many"
    for use in uses:
        why = use_problem(declared, use, scope)
        if why is not None:
            return why
    return None


def check_items(declared, index, entry):
    """Checks the six items behind the name of an action, in their order."""
    place = ("actions", index)
    why = parameters_problem(declared, entry[1])
    if why is not None:
        raise BadTask(place + ("parameters",), why)
    scope = widened({}, entry[1])
    check_nodes(declared, place + ("condition",), "formula", (entry[2],), scope)
    if not isinstance(entry[3], tuple):
        raise BadTask(place + ("effects",), "form")
    check_nodes(declared, place + ("effects",), "effect", entry[3], scope)
    check_nodes(declared, place + ("cost",), "amount", (entry[4],), scope)
    check_nodes(declared, place + ("time",), "amount", (entry[5],), scope)
    why = uses_problem(declared, entry[6], scope)
    if why is not None:
        raise BadTask(place + ("uses",), why)


def declare_action(declared, entry):
    # The actions are declared in their order, so their number is the index of this one.
    check_items(declared, len(declared.actions), entry)
    declared.actions[entry[0]] = tuple([pair[1] for pair in entry[1]])


def check_actions(declared, actions):
    check_part(declared, "actions", actions, MOST_ACTIONS, action_problem, declare_action)
    check_total(declared, "actions", list(declared.actions.values()), MOST_STEPS)


def start_fact_problem(declared, entry, named):
    if not begins_with_call(entry, 2):
        return "form"
    why = call_problem(declared, declared.facts, entry[0], entry[1], {})
    if why is not None:
        return why
    return "duplicate" if entry in named else None


def start_number_problem(declared, entry, named):
    if not begins_with_call(entry, 3) or not is_integer(entry[2]):
        return "form"
    why = call_problem(declared, declared.numbers, entry[0], entry[1], {})
    if why is not None:
        return why
    if entry[:2] in named:
        return "duplicate"
    low, high = declared.ranges[entry[0]]
    return None if low <= entry[2] <= high else "range"


def check_start_side(declared, side, entries, problem):
    named = {}
    for index, entry in enumerate(entries):
        why = problem(declared, entry, named)
        if why is not None:
            raise BadTask(("start", side, index), why)
        named[entry[:2]] = True


def check_start(declared, start):
    if not isinstance(start, tuple) or len(start) != 2:
        raise BadTask(("start",), "form")
    if not isinstance(start[0], tuple) or not isinstance(start[1], tuple):
        raise BadTask(("start",), "form")
    check_start_side(declared, 0, start[0], start_fact_problem)
    check_start_side(declared, 1, start[1], start_number_problem)


def check_goal(declared, goal):
    check_nodes(declared, ("goal",), "formula", (goal,), {})

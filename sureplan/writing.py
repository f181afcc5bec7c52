"""Writes tasks, formulas, amounts, states, what was seen, steps and lines as texts (point 126)."""

from sureplan.checks import check_amount, check_formula, check_state, check_step
from sureplan.errors import BadValue
from sureplan.names import is_integer, is_name
from sureplan.nodewriting import call_text, listed, node_text, variables_text
from sureplan.watching import check_seen


def value_text(name, args, value):
    """Returns the text of an item that says the value of a number."""
    return listed(["=", call_text(name, args), str(value)])


def declared_text(word, entry):
    """Returns the command for a fact, a number or a resource."""
    return listed([word, entry[0], listed(entry[1])] + [str(bound) for bound in entry[2:]])


def action_text(entry):
    """Returns the command for an action."""
    name, parameters, condition, effects, cost, time, uses = entry
    pieces = [listed(["if", node_text("formula", condition)]),
              listed(["then"] + [node_text("effect", effect) for effect in effects]),
              listed(["cost", node_text("amount", cost)]),
              listed(["time", node_text("amount", time)])]
    pieces.extend([listed(["use", call_text(use[0], use[1]), str(use[2])]) for use in uses])
    return listed(["action", name, variables_text(parameters)] + pieces)


def start_text(start):
    items = [call_text(name, args) for name, args in start[0]]
    return listed(["start"] + items + [value_text(name, args, value) for name, args, value in start[1]])


def step_line(call):
    """Returns the text of a step from its action and its objects."""
    return listed((call[0],) + call[1])


def is_label(value):
    """Tells if the value may stand in a line behind its word: it is None, or has at most 100 digits."""
    return value is None or is_integer(value) and abs(value) < 10 ** 50 * 10 ** 50


def is_line(line):
    """Tells if the value is a line that can be written."""
    if not isinstance(line, tuple) or not line or not isinstance(line[0], str) or not is_name(line[0]):
        return False
    return all([is_label(value) for value in line[1:]])


def joined_lines(texts):
    """Returns the text with a newline behind each of some texts."""
    return "".join([text + "\n" for text in texts])


def task_text(task):
    """Returns the text of the task."""
    texts = [listed(("kind",) + entry) for entry in task.kinds]
    texts.extend([listed(("object",) + entry) for entry in task.objects])
    texts.extend([declared_text("fact", entry) for entry in task.facts])
    texts.extend([declared_text("number", entry) for entry in task.numbers])
    texts.extend([declared_text("resource", entry) for entry in task.resources])
    texts.extend([action_text(entry) for entry in task.actions])
    return joined_lines(texts + [start_text(task.start), listed(["goal", node_text("formula", task.goal)])])


def formula_text(task, formula):
    """Returns the text of the formula."""
    check_formula(task, formula)
    return node_text("formula", formula)


def amount_text(task, amount):
    """Returns the text of the amount."""
    check_amount(task, amount)
    return node_text("amount", amount)


def state_text(task, state):
    """Returns the text of the state."""
    check_state(task, state)
    items = [call_text(name, args) for (name, args), holds in zip(task.all_facts(), state[0]) if holds]
    for number, value in zip(task.all_numbers(), state[1]):
        items.append(value_text(number[0], number[1], value))
    return listed(["state"] + items)


def entry_text(task, entry):
    """Returns the text of an entry of what was seen."""
    word, index, given = entry
    if word == "number":
        name, args = task.all_numbers()[index][:2]
        return value_text(name, args, given)
    name, args = task.all_facts()[index]
    return call_text(name, args) if given else listed(["not", call_text(name, args)])


def seen_text(task, seen):
    """Returns the text of what was seen."""
    check_seen(task, seen)
    return listed(["seen"] + [entry_text(task, entry) for entry in seen])


def step_text(task, step):
    """Returns the text of the step."""
    check_step(task, step)
    return step_line(task.all_steps()[step])


def steps_text(task, steps):
    """Returns the text of a list of steps."""
    if not isinstance(steps, list) or not all([task.is_step(step) for step in steps]):
        raise BadValue("steps")
    calls = task.all_steps()
    return joined_lines([step_line(calls[step]) for step in steps])


def lines_text(lines):
    """Returns the text of the lines."""
    if not isinstance(lines, list) or not all([is_line(line) for line in lines]):
        raise BadValue("lines")
    rows = [[line[0]] + ["none" if value is None else str(value) for value in line[1:]] for line in lines]
    return joined_lines([listed(row) for row in rows])

"""Reads tasks, formulas, amounts, states, what was seen, steps and lines from texts (points 117 to 125)."""

from sureplan.commands import Commands
from sureplan.errors import BadValue
from sureplan.formparts import is_list, read_behind, read_first, read_integer, read_list, read_words, refuse
from sureplan.forms import parse_commands, parse_form
from sureplan.items import read_items
from sureplan.nodereading import read_node

LONGEST_TEXT = 200000


def check_text(text):
    if not isinstance(text, str) or len(text) > LONGEST_TEXT:
        raise BadValue("text")


def read_single(task, category, text):
    """Returns the formula or the amount of a text."""
    check_text(text)
    form = parse_form(text)
    node = read_node(category, form)
    why = task.node_problem(category, node)
    if why is not None:
        refuse(form, why)
    return node


def read_entries(task, text, word):
    """Returns the entries of the items of a state or of something seen, which the word says."""
    check_text(text)
    form = parse_form(text)
    read_list(form)
    if read_first(form) != word:
        refuse(form[1][0], f"{word} is expected")
    return read_items(task, read_behind(form, 0, None), word == "seen")


def step_of(task, form):
    """Returns the index of the step for which a form stands."""
    read_list(form)
    name = read_first(form)
    args = read_words(form[1][1:])
    why = task.name_problem("step", name, args)
    if why is not None:
        refuse(form, why)
    return task.step_index(name, args)


def read_label(form):
    """Returns an integer of a line, or None."""
    if not is_list(form) and form[1] == "none":
        return None
    return read_integer(form)


def read_task(text):
    """Returns the task of a text."""
    check_text(text)
    commands = Commands()
    for command in parse_commands(text):
        commands.take(command)
    return commands.made_task()


def read_formula(task, text):
    """Returns the formula of a text."""
    return read_single(task, "formula", text)


def read_amount(task, text):
    """Returns the amount of a text."""
    return read_single(task, "amount", text)


def read_state(task, text):
    """Returns the state of a text."""
    holding = [False for _ in task.all_facts()]
    values = [number[2] for number in task.all_numbers()]
    for word, index, given in read_entries(task, text, "state"):
        if word == "fact":
            holding[index] = given
        else:
            values[index] = given
    return (tuple(holding), tuple(values))


def read_seen(task, text):
    """Returns what was seen, a tuple of entries."""
    return read_entries(task, text, "seen")


def read_step(task, text):
    """Returns the index of the step of a text."""
    check_text(text)
    return step_of(task, parse_form(text))


def read_steps(task, text):
    """Returns the list of the indexes of the steps of a text."""
    check_text(text)
    return [step_of(task, form) for form in parse_commands(text)]


def read_lines(text):
    """Returns the list of the lines of a text."""
    check_text(text)
    lines = []
    for form in parse_commands(text):
        word = read_first(form)
        lines.append((word,) + tuple([read_label(part) for part in form[1][1:]]))
    return lines

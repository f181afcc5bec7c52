"""Reads formulas, amounts and effects from forms (points 118 to 120)."""

from sureplan.formparts import (is_list, read_behind, read_call, read_first, read_integer, read_variables, read_word,
                                refuse)
from sureplan.notation import node_word, written_slots
from sureplan.scanning import DIGITS
from sureplan.shapes import MANY_NODES, ONE_NODE


def read_slot(slot, form):
    """Returns the parts of a node that one form stands for."""
    if slot in ONE_NODE:
        return (read_node(slot, form),)
    if slot == "integer":
        return (read_integer(form),)
    if slot == "variables":
        return (read_variables(form),)
    if slot == "object":
        return (read_word(form),)
    return read_call(form)


def read_listed(category, word, form):
    """Returns the node with a first word that a list stands for."""
    slots = written_slots(category, word)
    single = [slot for slot in slots if slot not in MANY_NODES]
    forms = read_behind(form, len(single), len(single) if len(single) == len(slots) else None)
    parts = (word,)
    for slot, part in zip(single, forms):
        parts = parts + read_slot(slot, part)
    if len(single) < len(slots):
        # The nodes of which there may be any number come last.
        parts = parts + (tuple([read_node(MANY_NODES[slots[-1]], part) for part in forms[len(single):]]),)
    return parts


def read_plain(category, form):
    """Returns the node that a word stands for, or a list that begins with a name."""
    if category == "effect":
        refuse(form[1][0] if is_list(form) else form, "an effect is expected")
    if category == "formula":
        if not is_list(form) and form[1] in ("true", "false"):
            return (form[1],)
        return ("fact",) + read_call(form)
    if not is_list(form) and (form[1].startswith("-") or form[1][0] in DIGITS):
        return ("int", read_integer(form))
    return ("number",) + read_call(form)


def read_node(category, form):
    """Returns the formula, the amount or the effect that a form stands for."""
    if is_list(form):
        word = node_word(category, read_first(form))
        if word is not None:
            return read_listed(category, word, form)
    return read_plain(category, form)

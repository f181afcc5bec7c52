"""Reads the items of a start, a state and what was seen (points 117 and 123)."""

from sureplan.formparts import is_list, read_behind, read_call, read_first, read_integer, refuse


def read_item(form, has_not):
    """Returns ("fact", name, args, answer) or ("number", name, args, value); with `has_not`, facts may be negated."""
    if is_list(form):
        word = read_first(form)
        if word == "=":
            number, value = read_behind(form, 2, 2)
            return ("number",) + read_call(number) + (read_integer(value),)
        if word == "not" and has_not:
            return ("fact",) + read_call(read_behind(form, 1, 1)[0]) + (False,)
    return ("fact",) + read_call(form) + (True,)


def item_problem(task, item, named):
    """Returns the first problem of an item, or None; `named` has the facts and numbers that were named before."""
    word, name, args, given = item
    why = task.name_problem(word, name, args)
    if why is not None:
        return why
    if item[:3] in named:
        return "duplicate"
    if word == "fact":
        return None
    low, high = task.all_numbers()[task.number_index(name, args)][2:]
    return None if low <= given <= high else "range"


def read_items(task, forms, has_not):
    """Returns the entries ("fact", index, answer) and ("number", index, value) of some items."""
    items = [read_item(form, has_not) for form in forms]
    named = {}
    entries = []
    for form, item in zip(forms, items):
        why = item_problem(task, item, named)
        if why is not None:
            refuse(form, why)
        named[item[:3]] = True
        word, name, args, given = item
        index = task.fact_index(name, args) if word == "fact" else task.number_index(name, args)
        entries.append((word, index, given))
    return tuple(entries)

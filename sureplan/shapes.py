"""The forms of formulas, amounts and effects: the slots that follow the first word of a node."""

from sureplan.names import is_integer, is_string_pairs, is_strings

FORMULAS = {
    "true": (),
    "false": (),
    "fact": ("fact", "args"),
    "not": ("formula",),
    "and": ("formulas",),
    "or": ("formulas",),
    "implies": ("formula", "formula"),
    "all": ("variables", "formula"),
    "some": ("variables", "formula"),
    "same": ("object", "object"),
    "le": ("amount", "amount"),
    "lt": ("amount", "amount"),
    "ge": ("amount", "amount"),
    "gt": ("amount", "amount"),
    "eq": ("amount", "amount"),
}
AMOUNTS = {
    "int": ("integer",),
    "number": ("number", "args"),
    "plus": ("amounts",),
    "minus": ("amount", "amount"),
    "times": ("integer", "amount"),
}
EFFECTS = {
    "make": ("fact", "args"),
    "unmake": ("fact", "args"),
    "set": ("number", "args", "amount"),
    "add": ("number", "args", "amount"),
    "take": ("number", "args", "amount"),
    "when": ("formula", "effects"),
    "each": ("variables", "effects"),
}
ONE_NODE = ("formula", "amount", "effect")
MANY_NODES = {"formulas": "formula", "amounts": "amount", "effects": "effect"}
QUANTIFIERS = ("all", "some", "each")


def slots_of(category, word):
    """Returns the slots behind the first word of a node, or None if no such node exists."""
    if category == "formula":
        return FORMULAS.get(word)
    if category == "amount":
        return AMOUNTS.get(word)
    return EFFECTS.get(word)


def fills(slot, part):
    """Tells if the part has the form that the slot asks for; nodes are not looked at."""
    if slot in ONE_NODE:
        return True
    if slot in MANY_NODES:
        return isinstance(part, tuple)
    if slot == "integer":
        return is_integer(part)
    if slot == "args":
        return is_strings(part)
    if slot == "variables":
        return is_string_pairs(part)
    return isinstance(part, str)


def has_shape(category, node):
    """Tells if the value has one of the forms of its category."""
    if not isinstance(node, tuple) or not node or not isinstance(node[0], str):
        return False
    slots = slots_of(category, node[0])
    if slots is None or len(node) != len(slots) + 1:
        return False
    return all([fills(slot, part) for slot, part in zip(slots, node[1:])])


def inner_nodes(category, node):
    """Returns the nodes directly inside a node, from left to right, as pairs of category and node."""
    found = []
    for slot, part in zip(slots_of(category, node[0]), node[1:]):
        if slot in ONE_NODE:
            found.append((slot, part))
        elif slot in MANY_NODES:
            found.extend([(MANY_NODES[slot], each) for each in part])
    return found


def has_instances(category, node):
    """Tells if the node contains anything but empty conjunctions, disjunctions and lists of effects."""
    inner = [pair for pair in inner_nodes(category, node) if pair[0] != "amount"]
    if not inner:
        return node[0] not in ("and", "or", "each")
    return any([has_instances(kind, part) for kind, part in inner])

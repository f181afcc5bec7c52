"""Writes formulas, amounts and effects (points 118 and 126)."""

from sureplan.notation import written_slots, written_word
from sureplan.shapes import MANY_NODES, ONE_NODE


def listed(parts):
    """Returns the text of a list of forms."""
    return "(" + " ".join(parts) + ")"


def call_text(name, args):
    """Returns the text of a fact, a number or a resource."""
    return listed((name,) + args) if args else name


def variables_text(pairs):
    return listed([listed(pair) for pair in pairs])


def slot_texts(slot, part):
    """Returns the texts of the forms for a part of a node that is no name with arguments."""
    if slot in ONE_NODE:
        return [node_text(slot, part)]
    if slot in MANY_NODES:
        return [node_text(MANY_NODES[slot], node) for node in part]
    if slot == "variables":
        return [variables_text(part)]
    return [str(part)]


def node_text(category, node):
    """Returns the text of a formula, an amount or an effect."""
    word = node[0]
    if word in ("true", "false"):
        return word
    if word in ("fact", "number"):
        return call_text(node[1], node[2])
    if word == "int":
        return str(node[1])
    texts = [written_word(word)]
    parts = node[1:]
    slots = written_slots(category, word)
    if slots[0] in ("fact", "number"):
        texts.append(call_text(parts[0], parts[1]))
        slots = slots[1:]
        parts = parts[2:]
    for slot, part in zip(slots, parts):
        texts.extend(slot_texts(slot, part))
    return listed(texts)

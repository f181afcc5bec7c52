"""Puts objects in place of variables."""

from sureplan.shapes import MANY_NODES, ONE_NODE, slots_of


def bound_args(args, binding):
    return tuple([binding.get(arg, arg) for arg in args])


def bound_part(slot, part, binding):
    if slot in ONE_NODE:
        return bound_node(slot, part, binding)
    if slot in MANY_NODES:
        return tuple([bound_node(MANY_NODES[slot], node, binding) for node in part])
    if slot == "args":
        return bound_args(part, binding)
    if slot == "object":
        return binding.get(part, part)
    return part


def bound_node(category, node, binding):
    """Returns the node with objects in place of the variables that the binding names."""
    slots = slots_of(category, node[0])
    return (node[0],) + tuple([bound_part(slot, part, binding) for slot, part in zip(slots, node[1:])])

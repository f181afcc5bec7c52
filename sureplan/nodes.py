"""Checks the nodes of formulas, amounts and effects (point 18)."""

from sureplan.errors import BadTask
from sureplan.names import is_small, is_variable
from sureplan.shapes import QUANTIFIERS, has_shape, inner_nodes, slots_of

MOST_NODES = 200
MOST_DEPTH = 12
MOST_INSTANCES = 2000
MOST_VARIABLES = 4


def call_problem(declared, table, name, args, scope):
    """Returns the problem of a name and its arguments, or None."""
    kinds = table.get(name)
    if kinds is None:
        return "unknown"
    if len(args) != len(kinds):
        return "count"
    for arg, kind in zip(args, kinds):
        own_kind = declared.kind_at(arg, scope)
        if own_kind is None:
            return "unknown"
        if not declared.is_below(own_kind, kind):
            return "kind"
    return None


def pairs_problem(declared, pairs, scope):
    """Returns the first problem of variables with their kinds, their number apart, or None."""
    before = {}
    for variable, kind in pairs:
        if not is_variable(variable):
            return "name"
        if variable in scope or variable in before:
            return "duplicate"
        if not declared.is_kind(kind):
            return "kind"
        before[variable] = True
    return None


def widened(scope, pairs):
    """Returns the scope together with the variables of the pairs."""
    wider = dict(scope)
    for variable, kind in pairs:
        wider[variable] = kind
    return wider


def slot_problem(declared, slot, parts, place, scope):
    """Returns the problem of the part at a place that is not itself a node, or None."""
    part = parts[place]
    if slot == "integer":
        return None if is_small(part) else "range"
    if slot == "fact":
        return call_problem(declared, declared.facts, part, parts[place + 1], scope)
    if slot == "number":
        return call_problem(declared, declared.numbers, part, parts[place + 1], scope)
    if slot == "object":
        return "unknown" if declared.kind_at(part, scope) is None else None
    if slot == "variables":
        if not 1 <= len(part) <= MOST_VARIABLES:
            return "count"
        return pairs_problem(declared, part, scope)
    return None


def own_problem(declared, category, node, scope):
    """Returns the first problem of a node, the nodes inside it apart, or None."""
    for place, slot in enumerate(slots_of(category, node[0])):
        why = slot_problem(declared, slot, node[1:], place, scope)
        if why is not None:
            return why
    return None


def count_instances(declared, category, node):
    """Counts the instances of a formula or an effect (point 15)."""
    word = node[0]
    if word == "eq":
        return 2
    inner = [pair for pair in inner_nodes(category, node) if pair[0] != "amount"]
    total = sum([count_instances(declared, kind, part) for kind, part in inner])
    if word in QUANTIFIERS:
        return total * declared.count_choices([pair[1] for pair in node[1]], 1)
    if inner or word in ("and", "or"):
        return total
    return 1


class NodeCheck:
    """Checks the nodes that count together, and raises the first problem."""

    def __init__(self, declared, where):
        self.declared = declared
        self.where = where
        self.seen = 0

    def check_node(self, category, node, scope, depth):
        self.seen += 1
        if self.seen > MOST_NODES:
            raise BadTask(self.where, "large")
        if depth > MOST_DEPTH:
            raise BadTask(self.where, "deep")
        if not has_shape(category, node):
            raise BadTask(self.where, "form")
        why = own_problem(self.declared, category, node, scope)
        if why is not None:
            raise BadTask(self.where, why)
        inner_scope = widened(scope, node[1]) if node[0] in QUANTIFIERS else scope
        for kind, part in inner_nodes(category, node):
            self.check_node(kind, part, inner_scope, depth + 1)


def check_nodes(declared, where, category, nodes, scope):
    """Checks a formula, an amount or all effects of an action, passed as a tuple of nodes."""
    check = NodeCheck(declared, where)
    for node in nodes:
        check.check_node(category, node, scope, 1)
    if category == "amount":
        return
    if sum([count_instances(declared, category, node) for node in nodes]) > MOST_INSTANCES:
        raise BadTask(where, "wide")


def first_problem(declared, category, node):
    """Returns the first problem of a formula or an amount without free variables, or None."""
    try:
        check_nodes(declared, (), category, (node,), {})
    except BadTask as bad:
        return bad.why
    return None

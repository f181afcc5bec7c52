"""Ground forms: formulas, amounts and effects without names and variables.

A ground amount is a linear form: a pair of its constant and of pairs of the index of a number and its factor, which
is not 0. A ground formula is ("true",), ("false",), ("fact", index), ("not", F), ("and", parts), ("or", parts) or
("most", form), which says that a linear form is at most 0 (points 37 to 39). A ground effect is ("make", index),
("unmake", index), ("set", index, form), ("add", index, form) or ("when", F, effects).
"""

from sureplan.binding import bound_args
from sureplan.choices import binding_of, choices
from sureplan.shapes import has_instances

SURE = ("true",)
NEVER = ("false",)


class Form:
    """A linear form that is being added up."""

    def __init__(self):
        self.constant = 0
        self.factors = {}

    def add_number(self, index, factor):
        self.factors[index] = self.factors.get(index, 0) + factor

    def add_amount(self, task, amount, factor, binding):
        """Adds a multiple of an amount."""
        word = amount[0]
        if word == "int":
            self.constant += factor * amount[1]
        elif word == "number":
            self.add_number(task.number_index(amount[1], bound_args(amount[2], binding)), factor)
        elif word == "plus":
            for part in amount[1]:
                self.add_amount(task, part, factor, binding)
        elif word == "minus":
            self.add_amount(task, amount[1], factor, binding)
            self.add_amount(task, amount[2], -factor, binding)
        else:
            self.add_amount(task, amount[2], factor * amount[1], binding)

    def ground(self):
        """Returns the ground amount."""
        return (self.constant, tuple([(index, self.factors[index]) for index in sorted(self.factors)
                                      if self.factors[index] != 0]))


def ground_amount(task, amount, binding, factor=1):
    """Returns the ground form of an amount, multiplied by the factor."""
    form = Form()
    form.add_amount(task, amount, factor, binding)
    return form.ground()


def at_most(task, less, more, gap, binding):
    """Returns the ground formula which says that an amount plus the gap is at most another amount."""
    form = Form()
    form.constant = gap
    form.add_amount(task, less, 1, binding)
    form.add_amount(task, more, -1, binding)
    return ("most", form.ground())


def ground_comparison(task, node, binding):
    word, left, right = node
    if word == "le":
        return at_most(task, left, right, 0, binding)
    if word == "lt":
        return at_most(task, left, right, 1, binding)
    if word == "ge":
        return at_most(task, right, left, 0, binding)
    if word == "gt":
        return at_most(task, right, left, 1, binding)
    return ("and", (at_most(task, left, right, 0, binding), at_most(task, right, left, 0, binding)))


def bindings_over(task, pairs, binding, is_bare):
    """Returns the binding for each choice of objects for the variables.

    What is behind the variables is bare if it has no instances. Then all choices give the same, so that one of them
    stands for all: there can be too many to list them, since the limit on instances does not count them.
    """
    lists = [task.objects_of(pair[1]) for pair in pairs]
    if is_bare:
        lists = [names[:1] for names in lists]
    found = []
    for chosen in choices(lists):
        wider = dict(binding)
        wider.update(binding_of(pairs, chosen))
        found.append(wider)
    return found


def ground_formula(task, node, binding):
    """Returns the ground form of a formula whose free variables are in the binding."""
    word = node[0]
    if word in ("true", "false"):
        return node
    if word == "fact":
        return ("fact", task.fact_index(node[1], bound_args(node[2], binding)))
    if word == "same":
        first, second = bound_args(node[1:], binding)
        return SURE if first == second else NEVER
    if word == "not":
        return ("not", ground_formula(task, node[1], binding))
    if word in ("and", "or"):
        return (word, tuple([ground_formula(task, part, binding) for part in node[1]]))
    if word == "implies":
        return ("or", (("not", ground_formula(task, node[1], binding)), ground_formula(task, node[2], binding)))
    if word in ("all", "some"):
        bindings = bindings_over(task, node[1], binding, not has_instances("formula", node[2]))
        parts = tuple([ground_formula(task, node[2], wider) for wider in bindings])
        return ("and", parts) if word == "all" else ("or", parts)
    return ground_comparison(task, node, binding)


def ground_effect(task, node, binding):
    """Returns the ground effects of an effect: several for "each"."""
    word = node[0]
    if word in ("make", "unmake"):
        return [(word, task.fact_index(node[1], bound_args(node[2], binding)))]
    if word == "when":
        return [("when", ground_formula(task, node[1], binding), ground_effects(task, node[2], binding))]
    if word == "each":
        found = []
        is_bare = not has_instances("effect", node)
        for wider in bindings_over(task, node[1], binding, is_bare):
            found.extend(list(ground_effects(task, node[2], wider)))
        return found
    index = task.number_index(node[1], bound_args(node[2], binding))
    if word == "take":
        return [("add", index, ground_amount(task, node[3], binding, -1))]
    return [(word, index, ground_amount(task, node[3], binding))]


def ground_effects(task, nodes, binding):
    """Returns the ground effects of a tuple of effects, in their order."""
    found = []
    for node in nodes:
        found.extend(ground_effect(task, node, binding))
    return tuple(found)

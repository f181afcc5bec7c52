"""What formulas and steps read, and what steps write (point 84)."""

from sureplan.acting import Changes, attempt
from sureplan.binding import bound_args
from sureplan.checks import check_formula, check_state, check_step
from sureplan.errors import NotPossible
from sureplan.grounded import Grounded
from sureplan.grounding import bindings_over
from sureplan.shapes import QUANTIFIERS, has_instances, inner_nodes


class Marks:
    """The facts and numbers that are read, as far as they have been found."""

    def __init__(self, task):
        self.task = task
        self.facts = {}
        self.numbers = {}

    def read_node(self, category, node, binding):
        """Marks what a formula, an amount or an effect reads; ground forms do not tell it, as numbers may cancel."""
        word = node[0]
        if word == "fact":
            self.facts[self.task.fact_index(node[1], bound_args(node[2], binding))] = True
        elif word in ("number", "add", "take"):
            self.numbers[self.task.number_index(node[1], bound_args(node[2], binding))] = True
        bindings = [binding]
        if word in QUANTIFIERS:
            # Nothing is read where there are no instances, and there may be too many choices to go through.
            is_bare = not has_instances(category, node)
            bindings = [] if is_bare else bindings_over(self.task, node[1], binding, False)
        for wider in bindings:
            for kind, part in inner_nodes(category, node):
                self.read_node(kind, part, wider)

    def lists(self):
        """Returns the indexes of the facts and of the numbers in ascending order."""
        return (sorted(self.facts), sorted(self.numbers))


def formula_reads(task, formula):
    """Returns the lists of the facts and of the numbers that a formula reads."""
    check_formula(task, formula)
    marks = Marks(task)
    marks.read_node("formula", formula, {})
    return marks.lists()


def reads(task, step):
    """Returns the lists of the facts and of the numbers that a step reads."""
    check_step(task, step)
    marks = Marks(task)
    marks.read_node("formula", task.condition_of(step), {})
    for effect in task.effects_of(step):
        marks.read_node("effect", effect, {})
    marks.read_node("amount", task.cost_of(step), {})
    marks.read_node("amount", task.time_of(step), {})
    return marks.lists()


def written(grounded, state, step):
    """Returns the lists of the facts and of the numbers that a step writes in a state in which it is possible."""
    changes = Changes()
    changes.collect(grounded.step(step).effects, state[0], state[1])
    return (sorted(changes.facts), sorted(list(changes.settings) + list(changes.additions)))


def writes(task, state, step):
    """Returns the lists of the facts and of the numbers that a step writes in a state."""
    check_state(task, state)
    check_step(task, step)
    grounded = Grounded(task)
    answer = attempt(grounded, state, step)
    if answer[0] == "not":
        raise NotPossible(0, answer[1])
    return written(grounded, state, step)

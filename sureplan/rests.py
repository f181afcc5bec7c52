"""The rest of a plan, which is still to be done (point 89)."""

from sureplan.acting import attempt, is_true
from sureplan.grounded import Grounded
from sureplan.grounding import ground_formula
from sureplan.touching import formula_reads, reads

MOST_STEPS = 20


class Rest:
    """A rest in ground form."""

    def __init__(self, task, steps):
        self.task = task
        self.steps = steps
        self.grounded = Grounded(task)
        self.goal = ground_formula(task, task.goal, {})

    def fault(self, state):
        """Returns None if the rest works in a state, otherwise its fault."""
        for position, step in enumerate(self.steps):
            answer = attempt(self.grounded, state, step)
            if answer[0] == "not":
                return ("step", position, answer[1])
            state = answer[3]
        holding, values = state
        return None if is_true(self.goal, holding, values) else ("goal",)

    def marks(self):
        """Returns the lists of the facts and of the numbers that a step or the goal reads; nothing else matters."""
        found = [reads(self.task, step) for step in self.steps] + [formula_reads(self.task, self.task.goal)]
        facts = sorted({fact for lists in found for fact in lists[0]})
        return (facts, sorted({number for lists in found for number in lists[1]}))

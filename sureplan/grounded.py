"""The steps of a task in ground form."""

from sureplan.grounding import ground_amount, ground_effects, ground_formula


class GroundStep:
    """What a step asks for and does, in ground form."""

    def __init__(self, task, step):
        self.condition = ground_formula(task, task.condition_of(step), {})
        self.effects = ground_effects(task, task.effects_of(step), {})
        self.cost_form = ground_amount(task, task.cost_of(step), {})
        self.time_form = ground_amount(task, task.time_of(step), {})


class Grounded:
    """The ground steps of a task; each is made when it is needed first, since a task can have very large ones."""

    def __init__(self, task):
        self.task = task
        self.many = len(task.all_steps())
        self.ranges = [number[2:] for number in task.all_numbers()]
        self.made = {}

    def step(self, index):
        """Returns the ground step with this index."""
        if index not in self.made:
            self.made[index] = GroundStep(self.task, index)
        return self.made[index]

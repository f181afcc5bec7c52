"""Steps that are possible one after another from a state, and runs of them in other orders (point 75)."""

from sureplan.acting import attempt
from sureplan.checks import check_state
from sureplan.errors import BadValue, NotPossible, TooLarge
from sureplan.grounded import Grounded


def check_listed(task, steps, most):
    """Raises an error if the value is not a list of at most so many steps."""
    if not isinstance(steps, list) or not all([task.is_step(step) for step in steps]):
        raise BadValue("steps")
    if len(steps) > most:
        raise TooLarge("steps")


class OwnRun:
    """The own run of a list of steps; what a step does in a state is kept."""

    def __init__(self, task, steps, state, most):
        check_listed(task, steps, most)
        check_state(task, state)
        self.grounded = Grounded(task)
        self.steps = list(steps)
        self.start = state
        self.kept = {}
        self.answers = []
        self.befores = []
        self.last = state
        for position in range(len(steps)):
            answer = self.answer(self.last, position)
            if answer[0] == "not":
                raise NotPossible(position, answer[1])
            self.answers.append(answer)
            self.befores.append(self.last)
            self.last = answer[3]

    def answer(self, state, position):
        """Returns what the step at a position does in a state, as `attempt` does."""
        key = (state, self.steps[position])
        if key not in self.kept:
            self.kept[key] = attempt(self.grounded, state, self.steps[position])
        return self.kept[key]

    def goes_alike(self, order):
        """Tells if the steps go alike in an order (point 76)."""
        state = self.start
        for position in order:
            answer = self.answer(state, position)
            if answer[0] == "not" or answer[1:3] != self.answers[position][1:3]:
                return False
            state = answer[3]
        return state == self.last

    def run_part(self, positions):
        """Runs the steps at some positions in their order.

        Returns ("done", cost, last state), or ("not", position, reason) for the first step that is not possible.
        """
        state = self.start
        total = 0
        for position in positions:
            answer = self.answer(state, position)
            if answer[0] == "not":
                return ("not", position, answer[1])
            total += answer[1]
            state = answer[3]
        return ("done", total, state)

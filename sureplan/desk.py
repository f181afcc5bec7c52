"""Desks: carry out steps, look, and plan again (points 105 to 111)."""

from sureplan.acting import is_true
from sureplan.checks import check_steps, checked_start
from sureplan.errors import BadValue, NotPossible, TooLarge
from sureplan.grounding import ground_formula
from sureplan.names import is_integer
from sureplan.running import run
from sureplan.search import first_plan
from sureplan.watching import check_seen, seen_state

MOST_WALKED = 1000
MOST_MOVES = 100
MOST_PURSUED = 100


class Desk:
    """A task, a current state, and the steps that were carried out."""

    def __init__(self, task):
        self.task = task
        self.searches = 0
        self._state = task.start_state()
        self._steps = ()
        self._total = 0
        self._moves = []
        self._plans = {}

    @property
    def current(self):
        """The current state."""
        return self._state

    @property
    def cost(self):
        """The total cost of the steps that were carried out."""
        return self._total

    def walked(self):
        """Returns the list of the steps that were carried out."""
        return list(self._steps)

    def at_goal(self):
        """Tells if the goal of the task holds in the current state."""
        holding, values = self._state
        return is_true(ground_formula(self.task, self.task.goal, {}), holding, values)

    def go(self, steps):
        """Carries out a list of steps; returns their cost, the new state and whether the goal holds in it."""
        check_steps(self.task, steps)
        self._check_room(len(steps))
        return self._carry_out(steps)

    def observe(self, seen):
        """Replaces the current state by the state after what was seen, and returns it."""
        check_seen(self.task, seen)
        self._move("observe", seen_state(seen, self._state), self._steps, self._total)
        return self._state

    def restart(self, state=None):
        """Begins again from a state, and returns it."""
        self._move("restart", checked_start(self.task, state), (), 0)
        return self._state

    def undo(self):
        """Undoes the latest move, and returns its name, or None if there is none."""
        if not self._moves:
            return None
        name, self._state, self._steps, self._total = self._moves.pop()
        return name

    def plan(self):
        """Returns the cost and the steps of the first plan, or None if there is no plan."""
        found = self._found_plan()
        self._keep(found)
        return None if found is None else (found[0], list(found[1]))

    def pursue(self, most=100):
        """Carries out the first steps of the first plan; returns what `go` returns, or None if there is no plan."""
        if not is_integer(most) or not 1 <= most <= MOST_PURSUED:
            raise BadValue("most")
        found = self._found_plan()
        steps = [] if found is None else found[1][:most]
        # A call that raises an error changes nothing, so the plan is not kept before this.
        self._check_room(len(steps))
        self._keep(found)
        return None if found is None else self._carry_out(steps)

    def copy(self):
        """Returns a new desk that equals this one."""
        other = Desk(self.task)
        other.searches = self.searches
        other._state = self._state
        other._steps = self._steps
        other._total = self._total
        other._moves = list(self._moves)
        other._plans = {state: self._plans[state] for state in self._plans}
        return other

    def _check_room(self, many):
        """Raises an error if there would be too many steps if so many were carried out."""
        if len(self._steps) + many > MOST_WALKED:
            raise TooLarge("walked")

    def _move(self, name, state, steps, total):
        """Makes a move that can be undone."""
        self._moves = self._moves[1 - MOST_MOVES:] + [(name, self._state, self._steps, self._total)]
        self._state = state
        self._steps = steps
        self._total = total

    def _carry_out(self, steps):
        answer = run(self.task, self._state, steps)
        if answer[0] == "not":
            raise NotPossible(answer[1], answer[2])
        _, cost, state, reached = answer
        self._move("go", state, self._steps + tuple(steps), self._total + cost)
        return (cost, state, reached)

    def _found_plan(self):
        """Returns the first plan from the current state, or None."""
        if self._state in self._plans:
            return self._plans[self._state]
        return first_plan(self.task, self._state)

    def _keep(self, found):
        """Keeps what was found from the current state, and counts the search if it was not kept before."""
        if self._state not in self._plans:
            self.searches += 1
            self._plans[self._state] = found

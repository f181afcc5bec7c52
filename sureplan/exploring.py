"""Explores the states that are reached from a state (point 32)."""

from sureplan.acting import attempt
from sureplan.errors import TooManyStates

MOST_STATES = 3000


class Explored:
    """The reached states in order, and for each of them its arcs: tuples (step, cost, place of the next state)."""

    def __init__(self, grounded, state):
        self.states = [state]
        self.arcs = []
        self.places = {state: 0}
        while len(self.arcs) < len(self.states):
            self.arcs.append(self.arcs_from(grounded, self.states[len(self.arcs)]))

    def place_of(self, state):
        """Returns the place of a state in the order; the state is appended if it is new."""
        if state not in self.places:
            if len(self.states) >= MOST_STATES:
                raise TooManyStates(MOST_STATES)
            self.places[state] = len(self.states)
            self.states.append(state)
        return self.places[state]

    def arcs_from(self, grounded, state):
        found = []
        for step in range(grounded.many):
            answer = attempt(grounded, state, step)
            if answer[0] == "done":
                found.append((step, answer[1], self.place_of(answer[3])))
        return found

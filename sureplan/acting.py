"""What ground formulas, amounts and steps mean in a state (points 24 to 26)."""


def form_value(form, values):
    """Returns the value of a linear form if the numbers have these values."""
    total, terms = form
    for index, factor in terms:
        total += factor * values[index]
    return total


def is_true(formula, holding, values):
    """Tells if a ground formula holds."""
    word = formula[0]
    if word == "fact":
        return holding[formula[1]]
    if word == "and":
        for part in formula[1]:
            if not is_true(part, holding, values):
                return False
        return True
    if word == "or":
        for part in formula[1]:
            if is_true(part, holding, values):
                return True
        return False
    if word == "not":
        return not is_true(formula[1], holding, values)
    if word == "most":
        return form_value(formula[1], values) <= 0
    return word == "true"


class Changes:
    """The effects of a step, as far as they have been collected in a state."""

    def __init__(self):
        self.facts = {}
        self.settings = {}
        self.additions = {}
        self.both = []
        self.two_ways = []

    def change_fact(self, index, entry):
        if self.facts.get(index, entry) != entry:
            self.both.append(index)
        self.facts[index] = entry

    def set_number(self, index, value):
        if index in self.additions or self.settings.get(index, value) != value:
            self.two_ways.append(index)
        self.settings[index] = value

    def add_number(self, index, value):
        if index in self.settings:
            self.two_ways.append(index)
        self.additions[index] = self.additions.get(index, 0) + value

    def collect(self, effects, holding, values):
        """Collects ground effects in the state before the step."""
        for effect in effects:
            word = effect[0]
            if word == "make" or word == "unmake":
                self.change_fact(effect[1], word == "make")
            elif word == "set":
                self.set_number(effect[1], form_value(effect[2], values))
            elif word == "add":
                self.add_number(effect[1], form_value(effect[2], values))
            elif is_true(effect[1], holding, values):
                self.collect(effect[2], holding, values)

    def conflict(self):
        """Returns the reason why the effects contradict one another, or None."""
        if self.both:
            return ("both", min(self.both))
        if self.two_ways:
            return ("two ways", min(self.two_ways))
        return None

    def new_values(self, values):
        """Returns the list of the values of the numbers after the changes."""
        after = list(values)
        for index, value in self.settings.items():
            after[index] = value
        for index, value in self.additions.items():
            after[index] = values[index] + value
        return after

    def new_facts(self, holding):
        """Returns the list of the facts after the changes."""
        after = list(holding)
        for index, entry in self.facts.items():
            after[index] = entry
        return after


def outside(values, ranges):
    """Returns the least index of a value that is outside its range, or None."""
    for index, (low, high) in enumerate(ranges):
        if not low <= values[index] <= high:
            return index
    return None


def attempt(grounded, state, index):
    """Returns what a step does in a state: ("done", cost, time, next state), or ("not", reason)."""
    step = grounded.step(index)
    holding, values = state
    if not is_true(step.condition, holding, values):
        return ("not", ("condition",))
    changes = Changes()
    changes.collect(step.effects, holding, values)
    reason = changes.conflict()
    if reason is not None:
        return ("not", reason)
    after = changes.new_values(values)
    place = outside(after, grounded.ranges)
    if place is not None:
        return ("not", ("range", place))
    cost = form_value(step.cost_form, values)
    if cost < 0:
        return ("not", ("cost",))
    time = form_value(step.time_form, values)
    if time < 1:
        return ("not", ("time",))
    return ("done", cost, time, (tuple(changes.new_facts(holding)), tuple(after)))

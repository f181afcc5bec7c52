"""Tasks: their declarations, and the facts, numbers, resources and steps that follow from them."""

from sureplan.actions import check_actions, check_goal, check_start
from sureplan.binding import bound_args, bound_node
from sureplan.choices import binding_of, choices
from sureplan.declared import Declared
from sureplan.errors import BadValue
from sureplan.names import is_integer, is_strings
from sureplan.nodes import call_problem, first_problem
from sureplan.parts import check_facts, check_kinds, check_numbers, check_objects, check_resources


def instances_of(declared, table):
    """Returns the pairs of a name and its objects for every entry of the table, in their order."""
    found = []
    for name, kinds in table.items():
        for chosen in choices([declared.members[kind] for kind in kinds]):
            found.append((name, chosen))
    return found


def places_of(calls):
    """Returns the index of each pair of a name and its objects."""
    return {call: index for index, call in enumerate(calls)}


def place_in(places, name, args):
    """Returns the index of a name with its objects, or None."""
    if not isinstance(name, str) or not is_strings(args):
        return None
    return places.get((name, args))


def are_facts(holding, many):
    """Tells if the value says of so many facts whether they hold."""
    if not isinstance(holding, tuple) or len(holding) != many:
        return False
    return all([entry is True or entry is False for entry in holding])


def are_values(given, ranges):
    """Tells if the value has one integer for each of the ranges, within it."""
    if not isinstance(given, tuple) or len(given) != len(ranges):
        return False
    return all([is_integer(value) and low <= value <= high for value, (low, high) in zip(given, ranges)])


class Task:
    """A small world: objects, facts, numbers, resources, actions, a start and a goal."""

    def __init__(self, *, kinds=(), objects=(), facts=(), numbers=(), resources=(), actions=(), start=((), ()),
                 goal=("true",)):
        declared = Declared()
        check_kinds(declared, kinds)
        check_objects(declared, objects)
        check_facts(declared, facts)
        check_numbers(declared, numbers)
        check_resources(declared, resources)
        check_actions(declared, actions)
        check_start(declared, start)
        check_goal(declared, goal)
        self.kinds = kinds
        self.objects = objects
        self.facts = facts
        self.numbers = numbers
        self.resources = resources
        self.actions = actions
        self.start = start
        self.goal = goal
        self._declared = declared
        self._fact_list = instances_of(declared, declared.facts)
        self._number_list = instances_of(declared, declared.numbers)
        self._resource_list = instances_of(declared, declared.resources)
        self._step_list = instances_of(declared, declared.actions)
        self._fact_places = places_of(self._fact_list)
        self._number_places = places_of(self._number_list)
        self._resource_places = places_of(self._resource_list)
        self._step_places = places_of(self._step_list)
        self._ranges = [declared.ranges[name] for name, _ in self._number_list]
        self._action_places = places_of(declared.actions)

    def all_facts(self):
        """Returns the facts in order, each a pair of its name and its objects."""
        return list(self._fact_list)

    def all_numbers(self):
        """Returns the numbers in order, each with its name, its objects, its least and its greatest value."""
        return [call + bounds for call, bounds in zip(self._number_list, self._ranges)]

    def all_resources(self):
        """Returns the resources in order, each with its name, its objects and its capacity."""
        capacities = self._declared.capacities
        return [call + (capacities[call[0]],) for call in self._resource_list]

    def all_steps(self):
        """Returns the steps in order, each a pair of the name of its action and its objects."""
        return list(self._step_list)

    def objects_of(self, kind):
        """Returns the names of the objects of a kind in order."""
        if not isinstance(kind, str) or not self._declared.is_kind(kind):
            raise BadValue("kind")
        return list(self._declared.members[kind])

    def fact_index(self, name, args):
        """Returns the index of the fact with this name and these objects."""
        place = place_in(self._fact_places, name, args)
        if place is None:
            raise BadValue("fact")
        return place

    def number_index(self, name, args):
        """Returns the index of the number with this name and these objects."""
        place = place_in(self._number_places, name, args)
        if place is None:
            raise BadValue("number")
        return place

    def resource_index(self, name, args):
        """Returns the index of the resource with this name and these objects."""
        place = place_in(self._resource_places, name, args)
        if place is None:
            raise BadValue("resource")
        return place

    def step_index(self, action, args):
        """Returns the index of the step with this action and these objects."""
        place = place_in(self._step_places, action, args)
        if place is None:
            raise BadValue("step")
        return place

    def start_state(self):
        """Returns the state at the start."""
        holding = [False] * len(self._fact_list)
        values = [low for low, _ in self._ranges]
        for name, chosen in self.start[0]:
            holding[self.fact_index(name, chosen)] = True
        for name, chosen, value in self.start[1]:
            values[self.number_index(name, chosen)] = value
        return (tuple(holding), tuple(values))

    def condition_of(self, step):
        """Returns the condition of a step."""
        action, binding = self._bound(step)
        return bound_node("formula", action[2], binding)

    def effects_of(self, step):
        """Returns the tuple of the effects of a step."""
        action, binding = self._bound(step)
        return tuple([bound_node("effect", effect, binding) for effect in action[3]])

    def cost_of(self, step):
        """Returns the amount that a step costs."""
        action, binding = self._bound(step)
        return bound_node("amount", action[4], binding)

    def time_of(self, step):
        """Returns the amount of time that a step takes."""
        action, binding = self._bound(step)
        return bound_node("amount", action[5], binding)

    def uses_of(self, step):
        """Returns pairs of the index of a resource and the amount that the step uses of it."""
        action, binding = self._bound(step)
        return tuple([(self.resource_index(name, bound_args(given, binding)), amount)
                      for name, given, amount in action[6]])

    def is_step(self, step):
        """Tells if the value is the index of a step."""
        return is_integer(step) and 0 <= step < len(self._step_list)

    def is_state(self, state):
        """Tells if the value is a state of the task."""
        if not isinstance(state, tuple) or len(state) != 2:
            return False
        return are_facts(state[0], len(self._fact_list)) and are_values(state[1], self._ranges)

    def is_formula(self, formula):
        """Tells if the value is a formula of the task without free variables."""
        return self.node_problem("formula", formula) is None

    def is_amount(self, amount):
        """Tells if the value is an amount of the task without free variables."""
        return self.node_problem("amount", amount) is None

    def node_problem(self, category, node):
        """Returns the first problem of a formula or an amount without free variables, or None."""
        return first_problem(self._declared, category, node)

    def name_problem(self, word, name, args):
        """Returns the problem of the name and the objects of a fact, a number or a step (the word), or None."""
        tables = {"fact": self._declared.facts, "number": self._declared.numbers, "step": self._declared.actions}
        return call_problem(self._declared, tables[word], name, args, {})

    def _bound(self, step):
        """Returns the action of a step, and what its parameters stand for."""
        if not self.is_step(step):
            raise BadValue("step")
        name, chosen = self._step_list[step]
        action = self.actions[self._action_places[name]]
        return action, binding_of(action[1], chosen)

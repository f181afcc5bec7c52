"""What the parts of a task declare."""

ROOT = "Thing"


class Declared:
    """The names that a task declares; it grows while the parts of the task are checked."""

    def __init__(self):
        self.above = {ROOT: (ROOT,)}
        self.members = {ROOT: []}
        self.kind_of = {}
        self.facts = {}
        self.numbers = {}
        self.ranges = {}
        self.resources = {}
        self.capacities = {}
        self.actions = {}

    def add_kind(self, name, parent):
        self.above[name] = (name,) + self.above[parent]
        self.members[name] = []

    def add_object(self, name, kind):
        self.kind_of[name] = kind
        for higher in self.above[kind]:
            self.members[higher].append(name)

    def is_kind(self, name):
        return name in self.above

    def is_below(self, kind, other):
        return other in self.above[kind]

    def is_taken(self, name):
        """Tells if an object, a fact or a number has the name."""
        return name in self.kind_of or name in self.facts or name in self.numbers

    def kind_at(self, arg, scope):
        """Returns the kind of an argument, or None if it is neither an object nor a variable in scope."""
        return scope.get(arg, self.kind_of.get(arg))

    def count_choices(self, kinds, least=0):
        """Returns how many choices of objects there are, each kind counted as at least so many objects."""
        many = 1
        for kind in kinds:
            many = many * max(least, len(self.members[kind]))
        return many

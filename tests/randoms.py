"""Small tasks, formulas, amounts and boxes, drawn from a random source with a fixed seed."""

from sureplan.search import first_plan
from sureplan.tasks import Task

KINDS = (("Sort", "Thing"), ("Empty", "Thing"))
OBJECTS = (("a", "Sort"), ("b", "Sort"))
FACTS = (("f", ("Sort",)), ("g", ()))
NUMBERS = (("m", (), -1, 2), ("n", ("Sort",), 0, 2))
COMPARISONS = ("le", "lt", "ge", "gt", "eq")


class Draw:
    """Draws parts of tasks; `names` are the objects and variables in scope."""

    def __init__(self, source):
        self.source = source
        self.made = 0

    def fresh(self):
        self.made += 1
        return f"?v{self.made}"

    def pairs(self):
        kinds = self.source.choice([("Sort",), ("Sort",), ("Sort", "Sort"), ("Empty",), ("Sort", "Empty")])
        return tuple((self.fresh(), kind) for kind in kinds)

    def sorts(self, names, pairs):
        return names + [variable for variable, kind in pairs if kind == "Sort"]

    def fact(self, names):
        if self.source.random() < 0.7:
            return ("f", (self.source.choice(names),))
        return ("g", ())

    def number(self, names):
        if self.source.random() < 0.6:
            return ("n", (self.source.choice(names),))
        return ("m", ())

    def amount(self, names, depth=2):
        word = self.source.choice(("int", "int", "number", "number", "plus", "minus", "times"))
        if depth == 0 and word != "int":
            word = "number"
        if word == "int":
            return ("int", self.source.randint(-2, 3))
        if word == "number":
            return ("number",) + self.number(names)
        if word == "plus":
            return ("plus", tuple(self.amount(names, depth - 1) for _ in range(self.source.randint(0, 3))))
        if word == "minus":
            return ("minus", self.amount(names, depth - 1), self.amount(names, depth - 1))
        return ("times", self.source.randint(-3, 3), self.amount(names, depth - 1))

    def formula(self, names, depth=3):
        words = ("fact", "fact") + COMPARISONS
        if depth > 0:
            words += ("not", "and", "or", "implies", "all", "some", "same", "true", "false", "and", "or", "not")
        word = self.source.choice(words)
        if word in ("true", "false"):
            return (word,)
        if word == "fact":
            return ("fact",) + self.fact(names)
        if word == "not":
            return ("not", self.formula(names, depth - 1))
        if word in ("and", "or"):
            many = self.source.choice((0, 1, 2, 2, 3))
            return (word, tuple(self.formula(names, depth - 1) for _ in range(many)))
        if word == "implies":
            return ("implies", self.formula(names, depth - 1), self.formula(names, depth - 1))
        if word in ("all", "some"):
            pairs = self.pairs()
            return (word, pairs, self.formula(self.sorts(names, pairs), depth - 1))
        if word == "same":
            return ("same", self.source.choice(names), self.source.choice(names))
        return (word, self.amount(names), self.amount(names))

    def effect(self, names, depth=2):
        words = ("make", "unmake", "set", "add", "take")
        word = self.source.choice(words + (("when", "when", "each") if depth > 0 else ()))
        if word in ("make", "unmake"):
            return (word,) + self.fact(names)
        if word == "when":
            return ("when", self.formula(names, 1), self.effects(names, depth - 1))
        if word == "each":
            pairs = self.pairs()
            return ("each", pairs, self.effects(self.sorts(names, pairs), depth - 1))
        return (word,) + self.number(names) + (self.amount(names, 1),)

    def effects(self, names, depth=2):
        return tuple(self.effect(names, depth) for _ in range(self.source.randint(0, 3)))

    def action(self, name):
        pairs = tuple((f"?p{k}", "Sort") for k in range(self.source.randint(0, 2)))
        names = ["a", "b"] + [variable for variable, _ in pairs]
        condition = self.formula(names, self.source.randint(0, 2))
        cost = self.source.choice((("int", 0), ("int", 1), ("int", 2), self.amount(names, 1)))
        time = self.source.choice((("int", 1), ("int", 2), self.amount(names, 1)))
        return (name, pairs, condition, self.effects(names), cost, time, ())

    def task(self, actions=3):
        drawn = tuple(self.action(f"act{k}") for k in range(actions))
        facts = tuple(pair for pair in (("f", ("a",)), ("f", ("b",)), ("g", ())) if self.source.random() < 0.5)
        return Task(kinds=KINDS, objects=OBJECTS, facts=FACTS, numbers=NUMBERS, actions=drawn,
                    start=(facts, (("m", (), self.source.randint(-1, 2)),)), goal=self.formula(["a", "b"], 2))

    def state(self, task):
        holding = tuple(self.source.random() < 0.5 for _ in task.all_facts())
        return (holding, tuple(self.source.randint(low, high) for _, _, low, high in task.all_numbers()))

    def box(self, task):
        facts = tuple(self.source.choice((True, False, None)) for _ in task.all_facts())
        spans = []
        for _, _, low, high in task.all_numbers():
            spans.append(tuple(sorted((self.source.randint(low, high), self.source.randint(low, high)))))
        return (facts, tuple(spans))


class Lively:
    """Draws tasks in which something happens: most steps are possible somewhere, and most goals are some steps away."""

    def __init__(self, source, facts=3, numbers=2):
        self.source = source
        self.facts = tuple((f"f{k}", ()) for k in range(facts))
        self.numbers = tuple((f"n{k}", (), 0, 3 - k) for k in range(numbers))

    def number(self):
        return ("number", self.source.choice(self.numbers)[0], ())

    def literal(self):
        if self.numbers and self.source.random() < 0.4:
            return (self.source.choice(COMPARISONS), self.number(), ("int", self.source.randint(0, 3)))
        fact = ("fact", self.source.choice(self.facts)[0], ())
        return fact if self.source.random() < 0.6 else ("not", fact)

    def condition(self, most=2):
        parts = tuple(self.literal() for _ in range(self.source.randint(0, most)))
        word = self.source.choice(("and", "and", "and", "or")) if len(parts) > 1 else "and"
        return (word, parts)

    def effect(self):
        if self.source.random() < 0.15:
            return ("when", self.literal(), (self.plain_effect(),))
        return self.plain_effect()

    def plain_effect(self):
        if self.numbers and self.source.random() < 0.45:
            word = self.source.choice(("add", "add", "take", "set"))
            return (word,) + self.number()[1:] + (("int", self.source.randint(0, 2)),)
        return (self.source.choice(("make", "make", "unmake")), self.source.choice(self.facts)[0], ())

    def action(self, name):
        effects = tuple(self.effect() for _ in range(self.source.randint(1, 2)))
        cost = ("int", self.source.choice((0, 1, 1, 2, 2, 3, 5)))
        if self.numbers and self.source.random() < 0.15:
            cost = ("plus", (cost, self.number()))
        return (name, (), self.condition(), effects, cost, ("int", self.source.randint(1, 2)), ())

    def task(self, actions=5):
        drawn = tuple(self.action(f"act{k}") for k in range(actions))
        goal = ("and", tuple(self.literal() for _ in range(self.source.randint(1, 3))))
        return Task(facts=self.facts, numbers=self.numbers, actions=drawn, goal=goal)

    def state(self, task):
        return Draw(self.source).state(task)


def lively_case(source, least=1, facts=3, numbers=2):
    """A lively task, a state, and the first plan from there, which costs at least so much, or None if there is none."""
    for _ in range(200):
        draw = Lively(source, source.randint(1, facts), source.randint(0, numbers))
        task = draw.task(source.randint(2, 6))
        state = draw.state(task)
        plan = first_plan(task, state)
        if plan is not None and plan[0] >= least or plan is None and source.random() < 0.1:
            break
    return task, state, plan

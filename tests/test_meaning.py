"""Points 22 to 26 and 29: formulas, amounts, effects and the reasons why a step is not possible."""

import random
import unittest

import oracle
from randoms import Draw
from samples import FALSE, ONE, TRUE, action, fact, number, trip, whole, world
from sureplan.errors import BadValue
from sureplan.meaning import holds, try_step, worth
from sureplan.tasks import Task

GO_ON = ("make", "done", ())


def small(effects=(), **items):
    """A task with the facts a, b, done, the numbers m and n from 0 to 9, and one action."""
    return Task(facts=(("a", ()), ("b", ()), ("done", ())), numbers=(("m", (), 0, 9), ("n", (), 0, 9)),
                actions=(action(effects=tuple(effects), **items),))


def after(effects, state=((False, True, False), (3, 5)), **items):
    """What the only step of such a task does: the state after it, or the reason."""
    answer = try_step(small(effects, **items), state, 0)
    return answer[1] if answer[0] == "not" else answer[3]


class FormulasTest(unittest.TestCase):
    def setUp(self):
        self.task = world()
        self.state = self.task.start_state()

    def check(self, formula, expected):
        self.assertIs(holds(self.task, formula, self.state), expected, formula)
        self.assertIs(holds(self.task, ("not", formula), self.state), not expected)

    def test_constants_and_facts(self):
        self.check(TRUE, True)
        self.check(FALSE, False)
        self.check(fact("open"), True)
        self.check(fact("at", "red", "home"), True)
        self.check(fact("at", "red", "shop"), False)

    def test_connectives(self):
        for first in (TRUE, FALSE):
            for second in (TRUE, FALSE):
                both = first == TRUE and second == TRUE
                self.check(("and", (first, second)), both)
                self.check(("or", (first, second)), first == TRUE or second == TRUE)
                self.check(("implies", first, second), first == FALSE or second == TRUE)
        self.check(("and", ()), True)
        self.check(("or", ()), False)
        self.check(("and", (TRUE, TRUE, FALSE)), False)
        self.check(("or", (FALSE, FALSE, TRUE)), True)

    def test_comparisons(self):
        for left in (1, 2, 3):
            a, b = whole(left), whole(2)
            self.check(("le", a, b), left <= 2)
            self.check(("lt", a, b), left < 2)
            self.check(("ge", a, b), left >= 2)
            self.check(("gt", a, b), left > 2)
            self.check(("eq", a, b), left == 2)

    def test_same(self):
        self.check(("same", "red", "red"), True)
        self.check(("same", "red", "home"), False)
        two = (("?x", "Truck"), ("?y", "Truck"))
        self.check(("some", two, ("not", ("same", "?x", "?y"))), True)
        self.check(("some", two, ("same", "?x", "?y")), True)
        self.check(("all", two, ("same", "?x", "?y")), False)

    def test_quantifiers(self):
        trucks = (("?t", "Truck"),)
        self.check(("some", trucks, fact("at", "?t", "home")), True)
        self.check(("all", trucks, fact("at", "?t", "home")), False)
        self.check(("all", (("?t", "Van"),), fact("at", "?t", "home")), True)
        self.check(("all", trucks, ("some", (("?p", "Place"),), fact("at", "?t", "?p"))), False)
        self.check(("some", (("?p", "Place"),), ("all", (("?v", "Van"),), fact("at", "?v", "?p"))), True)
        self.check(("all", trucks, ("le", number("fuel", "?t"), whole(5))), True)
        self.check(("all", trucks, ("lt", number("fuel", "?t"), whole(5))), False)

    def test_quantifiers_without_choices(self):
        for pairs in ((("?g", "Ghost"),), (("?t", "Truck"), ("?g", "Ghost")), (("?g", "Ghost"), ("?t", "Truck"))):
            self.check(("all", pairs, FALSE), True)
            self.check(("some", pairs, TRUE), False)
            self.check(("all", pairs, ("or", ())), True)
            self.check(("some", pairs, ("and", ())), False)

    def test_parts_without_instances(self):
        trucks = (("?t", "Truck"),)
        self.check(("all", trucks, ("and", (fact("at", "?t", "home"), ("and", ())))), False)
        self.check(("some", trucks, ("or", (("or", ()), ("not", fact("at", "?t", "home"))))), True)
        self.check(("all", trucks, ("implies", ("and", ()), fact("at", "?t", "home"))), False)

    def test_bare_formulas_over_very_many_choices(self):
        objects = tuple((f"o{k}", "Thing") for k in range(30))
        task = Task(objects=objects, actions=(action(condition=TRUE),))
        names = [tuple((f"?{letter}{k}", "Thing") for k in range(4)) for letter in "xyz"]
        bare = ("all", names[0], ("some", names[1], ("all", names[2], ("and", ()))))
        self.assertIs(holds(task, bare, ((), ())), True)
        self.assertIs(holds(task, ("some", names[0], ("not", bare[2])), ((), ())), False)
        effects = (("each", names[0], (("each", names[1], (("when", bare[2][2], ()),)),)),)
        task = Task(objects=objects, actions=(action(condition=bare, effects=effects),))
        self.assertEqual(try_step(task, ((), ()), 0), ("done", 1, 1, ((), ())))


class AmountsTest(unittest.TestCase):
    def test_amounts(self):
        task = world()
        state = task.start_state()
        for amount, expected in (
                (whole(-7), -7), (number("coins"), 3), (number("fuel", "red"), 5), (number("fuel", "old"), -2),
                (("plus", ()), 0), (("plus", (number("coins"),)), 3), (("plus", (ONE, number("coins"), ONE)), 5),
                (("minus", ONE, number("coins")), -2), (("times", -4, number("coins")), -12),
                (("times", 0, number("coins")), 0), (("minus", number("coins"), number("coins")), 0),
                (("minus", ("minus", ONE, ONE), ("minus", whole(5), ONE)), -4)):
            self.assertEqual(worth(task, amount, state), expected)

    def test_exact(self):
        amount = whole(999999)
        for _ in range(10):
            amount = ("times", 999999, amount)
        self.assertEqual(worth(Task(), amount, ((), ())), 999999 ** 11)
        self.assertIs(holds(Task(), ("lt", amount[2], amount), ((), ())), True)


class EffectsTest(unittest.TestCase):
    def test_facts(self):
        self.assertEqual(after([("make", "a", ()), ("unmake", "b", ())]), ((True, False, False), (3, 5)))
        self.assertEqual(after([("make", "b", ()), ("unmake", "a", ()), ("make", "b", ())]),
                         ((False, True, False), (3, 5)))
        self.assertEqual(after([]), ((False, True, False), (3, 5)))

    def test_numbers(self):
        self.assertEqual(after([("set", "m", (), number("n"))]), ((False, True, False), (5, 5)))
        self.assertEqual(after([("add", "m", (), whole(2)), ("take", "n", (), whole(4))]),
                         ((False, True, False), (5, 1)))
        self.assertEqual(after([("set", "m", (), whole(4)), ("set", "m", (), ("minus", number("n"), ONE))]),
                         ((False, True, False), (4, 5)))

    def test_an_addition_counts_as_often_as_it_is_collected(self):
        twice = ("add", "m", (), whole(3))
        self.assertEqual(after([twice, twice]), ((False, True, False), (9, 5)))
        self.assertEqual(after([twice, twice, twice, ("take", "m", (), whole(7))]), ((False, True, False), (5, 5)))
        objects = (("x", "Thing"), ("y", "Thing"))
        task = Task(objects=objects, numbers=(("n", (), 0, 9),),
                    actions=(action(effects=(("each", (("?a", "Thing"), ("?b", "Thing")), (("add", "n", (), ONE),)),)),))
        self.assertEqual(try_step(task, ((), (0,)), 0)[3], ((), (4,)))

    def test_all_is_evaluated_before_the_step(self):
        swap = [("set", "m", (), number("n")), ("set", "n", (), number("m"))]
        self.assertEqual(after(swap), ((False, True, False), (5, 3)))
        effects = [("make", "a", ()), ("when", fact("a"), (("make", "done", ()),)),
                   ("unmake", "b", ()), ("when", fact("b"), (("set", "n", (), ("plus", (number("m"), ONE))),)),
                   ("add", "m", (), ONE)]
        self.assertEqual(after(effects), ((True, False, False), (4, 4)))

    def test_when(self):
        self.assertEqual(after([("when", fact("b"), (("make", "a", ()), ("when", FALSE, (GO_ON,))))]),
                         ((True, True, False), (3, 5)))
        self.assertEqual(after([("when", FALSE, (("make", "a", ()), ("unmake", "a", ())))]),
                         ((False, True, False), (3, 5)))

    def test_each(self):
        task = world(actions=(action(effects=(
            ("each", (("?t", "Truck"), ("?p", "Place")), (("when", ("same", "?p", "shop"), (("make", "at", ("?t", "?p")),)),)),
            ("each", (("?g", "Ghost"),), (("unmake", "open", ()),)))),))
        state = task.start_state()
        holding = try_step(task, state, 0)[3][0]
        self.assertEqual(holding, (True, True, False, True, True) + (False,) * 4)


class ReasonsTest(unittest.TestCase):
    def test_condition(self):
        self.assertEqual(after([], condition=fact("a")), ("condition",))

    def test_both(self):
        pair = [("make", "b", ()), ("unmake", "b", ())]
        self.assertEqual(after(pair), ("both", 1))
        self.assertEqual(after(pair[::-1]), ("both", 1))
        self.assertEqual(after(pair + [("make", "a", ()), ("unmake", "a", ())]), ("both", 0))
        self.assertEqual(after([("make", "a", ()), ("when", fact("b"), (("unmake", "a", ()),))]), ("both", 0))
        self.assertEqual(after([("unmake", "b", ()), ("make", "a", ()), ("make", "b", ()), ("unmake", "b", ())]),
                         ("both", 1))

    def test_two_ways(self):
        zero = ("add", "n", (), whole(0))
        self.assertEqual(after([("set", "n", (), whole(5)), zero]), ("two ways", 1))
        self.assertEqual(after([zero, ("set", "n", (), whole(5))]), ("two ways", 1))
        self.assertEqual(after([("take", "n", (), whole(0)), ("set", "n", (), whole(5))]), ("two ways", 1))
        self.assertEqual(after([("set", "n", (), whole(5)), ("set", "n", (), whole(4))]), ("two ways", 1))
        self.assertEqual(after([("set", "n", (), ONE), ("set", "n", (), ONE), ("set", "n", (), whole(2))]),
                         ("two ways", 1))
        self.assertEqual(after([("set", "n", (), ONE), zero, ("set", "m", (), ONE), ("set", "m", (), whole(2))]),
                         ("two ways", 0))
        self.assertEqual(after([zero, ("set", "m", (), whole(5))]), ((False, True, False), (5, 5)))

    def test_range(self):
        self.assertEqual(after([("add", "n", (), whole(5))]), ("range", 1))
        self.assertEqual(after([("add", "n", (), whole(4))]), ((False, True, False), (3, 9)))
        self.assertEqual(after([("take", "n", (), whole(6))]), ("range", 1))
        self.assertEqual(after([("take", "n", (), whole(5))]), ((False, True, False), (3, 0)))
        self.assertEqual(after([("set", "n", (), whole(-1)), ("set", "m", (), whole(10))]), ("range", 0))
        self.assertEqual(after([("add", "n", (), whole(8)), ("take", "n", (), whole(5))]),
                         ((False, True, False), (3, 8)))

    def test_cost_and_time(self):
        state = ((False, True, False), (3, 5))
        self.assertEqual(after([], cost=("minus", number("m"), whole(4))), ("cost",))
        self.assertEqual(after([], time=("minus", number("m"), whole(3))), ("time",))
        task = small(cost=("minus", number("m"), whole(3)), time=("minus", number("m"), whole(2)))
        self.assertEqual(try_step(task, state, 0), ("done", 0, 1, state))
        task = small([("set", "m", (), whole(0))], cost=number("m"), time=("times", 2, number("n")))
        self.assertEqual(try_step(task, state, 0), ("done", 3, 10, ((False, True, False), (0, 5))))

    def test_the_first_reason_is_reported(self):
        both = [("make", "b", ()), ("unmake", "b", ())]
        ways = [("set", "m", (), ONE), ("add", "m", (), ONE)]
        leave = [("add", "n", (), whole(9))]
        wrong = {"cost": whole(-1), "time": whole(0)}
        self.assertEqual(after(both + ways + leave, condition=FALSE, **wrong), ("condition",))
        self.assertEqual(after(leave + ways + both, **wrong), ("both", 1))
        self.assertEqual(after(leave + ways, **wrong), ("two ways", 0))
        self.assertEqual(after(leave, **wrong), ("range", 1))
        self.assertEqual(after([], **wrong), ("cost",))
        self.assertEqual(after([], time=whole(0)), ("time",))

    def test_two_ways_comes_before_range(self):
        self.assertEqual(after([("set", "n", (), whole(99)), ("set", "n", (), whole(98)), ("set", "m", (), whole(99))]),
                         ("two ways", 1))

    def test_example_of_the_document(self):
        task = trip()
        self.assertEqual(try_step(task, task.start_state(), 0), ("done", 2, 1, ((False, True), (2,))))
        self.assertEqual(try_step(task, ((False, True), (2,)), 0), ("not", ("condition",)))
        self.assertEqual(try_step(task, ((True, False), (0,)), 0), ("not", ("range", 0)))


class WrongArgumentsTest(unittest.TestCase):
    def raised(self, call, *args):
        with self.assertRaises(BadValue) as caught:
            call(*args)
        return caught.exception.name

    def test_errors(self):
        task = trip()
        state = task.start_state()
        for wrong in (None, [], ((True, False), [3]), ((True, False), (10,)), ((1, 0), (3,)), ((True,), (3,))):
            self.assertEqual(self.raised(holds, task, TRUE, wrong), "state")
            self.assertEqual(self.raised(worth, task, ONE, wrong), "state")
            self.assertEqual(self.raised(try_step, task, wrong, 0), "state")
        for wrong in (None, fact("nobody"), ONE, ("same", "?x", "?x"), [], "true"):
            self.assertEqual(self.raised(holds, task, wrong, state), "formula")
        for wrong in (None, number("nobody"), TRUE, 5, [], whole(1000001)):
            self.assertEqual(self.raised(worth, task, wrong, state), "amount")
        for wrong in (None, -1, 1, True, False, "0", 0.0, [0]):
            self.assertEqual(self.raised(try_step, task, state, wrong), "step")

    def test_arguments_are_checked_from_the_first_to_the_last(self):
        task = trip()
        self.assertEqual(self.raised(holds, task, None, None), "formula")
        self.assertEqual(self.raised(worth, task, None, None), "amount")
        self.assertEqual(self.raised(try_step, task, None, None), "state")


class OracleTest(unittest.TestCase):
    """Compares the program with a second reading of the document, on many small tasks."""

    def test_formulas_and_amounts(self):
        draw = Draw(random.Random(1))
        for _ in range(60):
            task = draw.task(0)
            for _ in range(15):
                state = draw.state(task)
                formula = draw.formula(["a", "b"])
                self.assertIs(holds(task, formula, state), oracle.true_in(task, formula, state))
                amount = draw.amount(["a", "b"])
                self.assertEqual(worth(task, amount, state), oracle.value(task, amount, state))

    def test_steps(self):
        draw = Draw(random.Random(2))
        seen = {}
        for _ in range(150):
            task = draw.task()
            for _ in range(4):
                state = draw.state(task)
                for step in range(len(task.all_steps())):
                    answer = try_step(task, state, step)
                    self.assertEqual(answer, oracle.attempt(task, state, step))
                    seen[answer[0] if answer[0] == "done" else answer[1][0]] = True
        self.assertEqual(sorted(seen), ["both", "condition", "cost", "done", "range", "time", "two ways"])


if __name__ == "__main__":
    unittest.main()

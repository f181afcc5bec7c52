"""Point 84, and sureplan/touching.py."""

import random
import unittest

import orderoracle
from randoms import Draw
from samples import FALSE, ONE, TRUE, action, fact, number, whole
from sureplan.errors import BadValue, NotPossible
from sureplan.meaning import try_step
from sureplan.tasks import Task
from sureplan.touching import formula_reads, reads, writes

# The facts are 0 to 3: p(a), p(b), q, r; the numbers are 0 to 3: n(a), n(b), m, k.
PARTS = {
    "kinds": (("Sort", "Thing"), ("Empty", "Thing")),
    "objects": (("a", "Sort"), ("b", "Sort")),
    "facts": (("p", ("Thing",)), ("q", ()), ("r", ())),
    "numbers": (("n", ("Thing",), 0, 9), ("m", (), 0, 9), ("k", (), 0, 9)),
}
M, K, Q, R = number("m"), number("k"), fact("q"), fact("r")
NOTHING = ([], [])


def task_with(*effects, condition=TRUE, cost=ONE, time=ONE, parameters=()):
    return Task(actions=(action("act", parameters, condition, effects, cost, time),), **PARTS)


TASK = task_with()
START = TASK.start_state()


def read_by(*effects, **parts):
    task = task_with(*effects, **parts)
    found = reads(task, 0)
    assert found == orderoracle.reads(task, 0)
    return found


class FormulaTest(unittest.TestCase):
    def check(self, formula, facts, numbers):
        self.assertEqual(formula_reads(TASK, formula), (facts, numbers))
        self.assertEqual(orderoracle.lists(orderoracle.standing(TASK, formula, False)), (facts, numbers))

    def test_every_form(self):
        self.check(TRUE, [], [])
        self.check(FALSE, [], [])
        self.check(fact("p", "b"), [1], [])
        self.check(("not", Q), [2], [])
        self.check(("and", ()), [], [])
        self.check(("or", ()), [], [])
        self.check(("and", (R, Q, fact("p", "a"), R)), [0, 2, 3], [])
        self.check(("or", (R, ("not", Q))), [2, 3], [])
        self.check(("implies", R, ("eq", M, ONE)), [3], [2])
        self.check(("same", "a", "b"), [], [])
        for word in ("le", "lt", "ge", "gt", "eq"):
            self.check((word, K, number("n", "a")), [], [0, 3])
            self.check((word, ONE, whole(2)), [], [])

    def test_every_amount(self):
        for amount, numbers in ((ONE, []), (M, [2]), (("plus", ()), []), (("plus", (M, ONE, number("n", "b"), M)), [1, 2]),
                                (("minus", K, M), [2, 3]), (("times", 4, M), [2])):
            self.check(("le", amount, ONE), [], numbers)
            self.check(("gt", ONE, amount), [], numbers)

    def test_what_does_not_matter_is_read(self):
        self.check(("eq", M, M), [], [2])
        self.check(("le", ("minus", M, M), ONE), [], [2])
        self.check(("le", ("times", 0, M), ("plus", (ONE, ("times", 0, K)))), [], [2, 3])
        self.check(("or", (TRUE, Q)), [2], [])
        self.check(("and", (FALSE, Q, ("ge", M, whole(0)))), [2], [2])
        self.check(("implies", FALSE, Q), [2], [])

    def test_choices(self):
        x = (("?x", "Sort"),)
        self.check(("all", x, fact("p", "?x")), [0, 1], [])
        self.check(("some", x, ("ge", number("n", "?x"), M)), [], [0, 1, 2])
        self.check(("all", (("?x", "Sort"), ("?y", "Thing")), ("and", (fact("p", "?y"), ("same", "?x", "a")))), [0, 1], [])
        self.check(("all", x, ("some", (("?y", "Sort"),), ("implies", fact("p", "?y"), Q))), [0, 1, 2], [])
        self.check(("some", x, ("and", (("same", "?x", "a"), fact("p", "?x")))), [0, 1], [])

    def test_no_choice(self):
        none = (("?x", "Empty"),)
        self.check(("all", none, fact("p", "?x")), [], [])
        self.check(("some", none, ("and", (Q, ("ge", M, K)))), [], [])
        self.check(("and", (R, ("all", (("?x", "Sort"), ("?y", "Empty")), fact("p", "?x")))), [3], [])
        self.check(("all", (("?x", "Sort"),), ("some", none_of("?y"), fact("p", "?x"))), [], [])
        self.check(("some", none, ("all", (("?y", "Sort"),), fact("p", "?y"))), [], [])

    def test_nothing_behind_very_many_choices(self):
        task = Task(objects=tuple((f"o{k}", "Thing") for k in range(30)), facts=(("q", ()),))
        many = tuple((f"?v{k}", "Thing") for k in range(4))
        self.assertEqual(formula_reads(task, ("and", (("all", many, ("or", (("and", ()),))), Q))), ([0], []))

    def test_wrong_formulas(self):
        for formula in (None, 0, "true", (), ("fact",), ("fact", "s", ()), fact("p", "?x"), ("and", Q), M, ("le", Q, Q), True):
            with self.assertRaises(BadValue) as caught:
                formula_reads(TASK, formula)
            self.assertEqual(caught.exception.name, "formula")


def none_of(variable):
    return ((variable, "Empty"),)


class ReadsTest(unittest.TestCase):
    def test_condition_cost_and_time(self):
        self.assertEqual(read_by(), NOTHING)
        self.assertEqual(read_by(condition=("and", (Q, ("le", M, K)))), ([2], [2, 3]))
        self.assertEqual(read_by(cost=M), ([], [2]))
        self.assertEqual(read_by(time=("plus", (K, ONE))), ([], [3]))
        self.assertEqual(read_by(cost=("times", 0, M), time=("minus", K, K)), ([], [2, 3]))

    def test_effects(self):
        self.assertEqual(read_by(("make", "q", ()), ("unmake", "r", ())), NOTHING)
        self.assertEqual(read_by(("set", "m", (), ONE)), NOTHING)
        self.assertEqual(read_by(("set", "m", (), K)), ([], [3]))
        self.assertEqual(read_by(("set", "m", (), M)), ([], [2]))
        self.assertEqual(read_by(("add", "m", (), ONE)), ([], [2]))
        self.assertEqual(read_by(("take", "m", (), K)), ([], [2, 3]))
        self.assertEqual(read_by(("add", "m", (), whole(0))), ([], [2]))
        self.assertEqual(read_by(("when", Q, (("make", "r", ()),))), ([2], []))
        self.assertEqual(read_by(("when", FALSE, (("add", "m", (), K), ("make", "r", ())))), ([], [2, 3]))
        self.assertEqual(read_by(("when", Q, ())), ([2], []))
        self.assertEqual(read_by(("when", ("le", M, ONE), (("when", R, (("set", "k", (), number("n", "a")),)),))),
                         ([3], [0, 2]))

    def test_each(self):
        x = (("?x", "Sort"),)
        self.assertEqual(read_by(("each", x, (("make", "p", ("?x",)),))), NOTHING)
        self.assertEqual(read_by(("each", x, (("when", fact("p", "?x"), (("take", "n", ("?x",), M),)),))), ([0, 1], [0, 1, 2]))
        self.assertEqual(read_by(("each", x, (("each", (("?y", "Sort"),), (("add", "n", ("?y",), ONE),)),))), ([], [0, 1]))
        self.assertEqual(read_by(("each", x, ())), NOTHING)
        self.assertEqual(read_by(("each", none_of("?x"), (("add", "m", (), K), ("when", Q, ())))), NOTHING)
        self.assertEqual(read_by(("each", x, (("each", none_of("?y"), (("add", "n", ("?x",), ONE),)),))), NOTHING)

    def test_parameters(self):
        task = task_with(("add", "n", ("?x",), number("n", "?y")), condition=fact("p", "?x"),
                         parameters=(("?x", "Sort"), ("?y", "Sort")))
        self.assertEqual([reads(task, step) for step in range(4)],
                         [([0], [0]), ([0], [0, 1]), ([1], [0, 1]), ([1], [1])])

    def test_nothing_behind_very_many_choices(self):
        many = tuple((f"?v{k}", "Thing") for k in range(4))
        objects = tuple((f"o{k}", "Thing") for k in range(30))
        task = Task(objects=objects, actions=(action("act", effects=(("each", many, (("when", ("and", ()), ()),)),)),))
        self.assertEqual(reads(task, 0), NOTHING)
        self.assertEqual(writes(task, ((), ()), 0), NOTHING)

    def test_drawn_tasks(self):
        for seed in range(300):
            source = random.Random(seed)
            draw = Draw(source)
            task = draw.task()
            for step in range(len(task.all_steps())):
                self.assertEqual(reads(task, step), orderoracle.reads(task, step), seed)
            formula = draw.formula(["a", "b"])
            self.assertEqual(formula_reads(task, formula),
                             orderoracle.lists(orderoracle.standing(task, formula, False)), seed)

    def test_wrong_steps(self):
        for step in (None, -1, 1, True, False, "0", (0,), 0.0):
            with self.assertRaises(BadValue) as caught:
                reads(TASK, step)
            self.assertEqual(caught.exception.name, "step")


class WritesTest(unittest.TestCase):
    def check(self, effects, facts, numbers, state=START):
        self.assertEqual(writes(task_with(*effects), state, 0), (facts, numbers))

    def test_facts_and_numbers(self):
        self.check((), [], [])
        self.check((("make", "r", ()), ("unmake", "p", ("b",))), [1, 3], [])
        self.check((("set", "k", (), ONE), ("add", "m", (), ONE), ("take", "n", ("a",), whole(0))), [], [0, 2, 3])

    def test_a_write_of_the_value_that_was_there(self):
        self.check((("unmake", "q", ()),), [2], [])
        self.check((("make", "q", ()), ("make", "q", ())), [2], [], ((True,) * 4, (0,) * 4))
        self.check((("set", "m", (), M), ("set", "k", (), whole(0))), [], [2, 3])
        self.check((("add", "m", (), whole(0)), ("add", "k", (), M), ("take", "k", (), M)), [], [2, 3])

    def test_effects_under_conditions(self):
        effects = (("when", Q, (("make", "r", ()), ("set", "m", (), ONE))), ("when", ("not", Q), (("make", "p", ("a",)),)))
        self.check(effects, [0], [])
        self.check(effects, [3], [2], ((False, False, True, False), (0,) * 4))

    def test_each(self):
        self.check((("each", (("?x", "Sort"),), (("make", "p", ("?x",)), ("add", "n", ("?x",), ONE))),), [0, 1], [0, 1])
        self.check((("each", none_of("?x"), (("make", "q", ()),)),), [], [])
        self.check((("each", (("?x", "Sort"),), (("when", fact("p", "?x"), (("unmake", "p", ("?x",)),)),)),), [1], [],
                   ((False, True, False, False), (0,) * 4))

    def test_what_is_only_read_is_not_written(self):
        task = task_with(("set", "m", (), K), condition=("not", Q), cost=number("n", "a"))
        self.assertEqual(writes(task, START, 0), ([], [2]))

    def test_drawn_tasks(self):
        many = 0
        for seed in range(300):
            source = random.Random(seed)
            draw = Draw(source)
            task = draw.task()
            state = draw.state(task)
            for step in range(len(task.all_steps())):
                answer = try_step(task, state, step)
                if answer[0] == "done":
                    many += 1
                    self.assertEqual(writes(task, state, step), orderoracle.writes(task, state, step), seed)
                else:
                    with self.assertRaises(NotPossible) as caught:
                        writes(task, state, step)
                    self.assertEqual((caught.exception.position, caught.exception.reason), (0, answer[1]))
        self.assertGreater(many, 200)

    def test_a_step_that_is_not_possible(self):
        for effects, parts, reason in (((), {"condition": Q}, ("condition",)),
                                       ((("make", "q", ()), ("unmake", "q", ())), {}, ("both", 2)),
                                       ((("set", "m", (), ONE), ("add", "m", (), ONE)), {}, ("two ways", 2)),
                                       ((("take", "k", (), ONE),), {}, ("range", 3)),
                                       ((), {"cost": whole(-1)}, ("cost",)), ((), {"time": whole(0)}, ("time",))):
            with self.assertRaises(NotPossible) as caught:
                writes(task_with(*effects, **parts), START, 0)
            self.assertEqual((caught.exception.position, caught.exception.reason), (0, reason))

    def test_wrong_arguments(self):
        task = task_with(condition=FALSE)
        for state in (None, 0, (), ((True,) * 3, (0,) * 4), ((True,) * 4, (0,) * 3), ((True,) * 4, (10,) * 4)):
            for step in (0, 7, None):
                with self.assertRaises(BadValue) as caught:
                    writes(task, state, step)
                self.assertEqual(caught.exception.name, "state")
        for step in (None, -1, 1, True, False, "0", (0,)):
            with self.assertRaises(BadValue) as caught:
                writes(task, START, step)
            self.assertEqual(caught.exception.name, "step")

    def test_returned_lists_are_new(self):
        task = task_with(("make", "q", ()), ("add", "m", (), ONE), condition=R)
        state = ((False, False, False, True), (0,) * 4)
        for function in (lambda: writes(task, state, 0), lambda: reads(task, 0), lambda: formula_reads(task, R)):
            found = function()
            before = (list(found[0]), list(found[1]))
            found[0].append(9)
            found[1].append(9)
            self.assertEqual(function(), before)


if __name__ == "__main__":
    unittest.main()

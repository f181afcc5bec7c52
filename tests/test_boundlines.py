"""Points 71 and 72, and sureplan/boundlines.py."""

import random
import unittest

from randoms import Draw, lively_case
from samples import FALSE, ONE, TRUE, action, fact, number, whole
from sureplan.boundlines import cut_lines, level_lines, projection_lines
from sureplan.cuts import cut_bound
from sureplan.errors import BadValue, TooLarge
from sureplan.judge import Judge
from sureplan.levels import level_bound
from sureplan.projections import projection_bound
from sureplan.search import first_plan
from sureplan.tasks import Task
from test_levels import START, counter
from test_outline import errand
from test_projections import ArgumentsTest as PatternsTest
from test_projections import drawn_patterns, made, up

N = number("n")


def claimed(task, state, lines):
    """What the last line claims; all lines must be right for a new judge, whose claim this must be."""
    judge = Judge(task, state)
    for line in lines:
        assert judge.line(line) == "right", line
    word, bound = lines[-1]
    assert word == "claim"
    assert judge.claim() == ("none" if bound is None else bound)
    return bound


class BoundsTest(unittest.TestCase):
    def check(self, task, state, patterns, seed=None):
        """Compares the certificates with the bounds, which are not above the cost of the first plan."""
        plan = first_plan(task, state)
        bounds = []
        for lines, bound in ((level_lines(task, state), level_bound(task, state)),
                             (cut_lines(task, state), cut_bound(task, state)),
                             (projection_lines(task, patterns, state), projection_bound(task, patterns, state))):
            self.assertEqual(claimed(task, state, lines), bound, seed)
            if bound is None:
                self.assertIsNone(plan, seed)
            elif plan is not None:
                self.assertLessEqual(bound, plan[0], seed)
            bounds.append(bound)
        self.assertNotIn(("invariant",), level_lines(task, state) + cut_lines(task, state))
        return tuple(bounds)

    def test_the_worked_example(self):
        self.assertEqual(self.check(errand(), ((True, False), (5,)), [[("fact", 1)]]), (3, 3, 3))
        self.assertEqual(self.check(errand(), ((True, False), (1,)), [[("fact", 1)]]), (None, None, None))
        self.assertEqual(self.check(errand(), ((False, True), (1,)), [[("fact", 1)]]), (0, 0, 0))

    def test_the_goal_holds_at_once(self):
        self.assertEqual(self.check(counter(TRUE, up()), START, [[]]), (0, 0, 0))
        self.assertEqual(self.check(Task(), ((), ()), [[]]), (0, 0, 0))

    def test_no_plan(self):
        self.assertEqual(self.check(counter(FALSE, up()), START, [[]]), (None, None, None))
        self.assertEqual(self.check(Task(goal=FALSE), ((), ()), [[], []]), (None, None, None))

    def test_no_bound_is_always_the_greatest(self):
        chain = counter(("ge", N, whole(9)), up(2))
        self.assertEqual(self.check(chain, START, [[]]), (18, 2, 0))
        self.assertEqual(self.check(chain, START, [[("number", 0)]]), (18, 2, 18))
        apart = counter(("and", (fact("a"), fact("b"))), made("a", 3), made("b", 3))
        self.assertEqual(self.check(apart, START, [[("fact", 0)]]), (3, 3, 3))
        self.assertEqual(self.check(apart, START, [[("fact", 0)], [("fact", 1)]]), (3, 3, 6))
        first = action("first", effects=(("add", "n", (), ONE),), condition=("not", fact("a")), cost=whole(2))
        task = counter(("and", (fact("a"), ("ge", N, whole(3)))), first, made("a", 4))
        self.assertEqual(self.check(task, START, [[("fact", 0), ("number", 0)]]), (6, 4, 10))

    def test_fractions_and_rests(self):
        both = action("both", effects=(("make", "a", ()), ("make", "b", ())), cost=whole(5))
        task = counter(("and", (fact("a"), fact("b"))), made("a", 2), made("b", 3), both)
        self.assertEqual(self.check(task, START, [[("fact", 0)], [("fact", 1)]]), (3, 3, 5))
        step = action("step", effects=(("make", "b", ()),), cost=("minus", whole(5), N))
        once = action("once", condition=("lt", N, ONE), effects=(("set", "n", (), ONE),), cost=whole(3))
        task = counter(fact("b"), once, step)
        self.assertEqual(self.check(task, START, [[("number", 0)], [("fact", 1)]]), (5, 4, 4))

    def test_levels_of_equal_cost(self):
        task = counter(("ge", N, whole(5)), made("b", 0, fact("a")), made("a", 0),
                       action("last", condition=fact("b"), effects=(("set", "n", (), whole(5)),), cost=whole(4)))
        self.assertEqual(self.check(task, START, [[("number", 0)]]), (4, 4, 4))

    def test_drawn_tasks(self):
        for seed in range(300):
            source = random.Random(seed)
            task, state, _ = lively_case(source, facts=4, numbers=3)
            self.check(task, state, drawn_patterns(source, task), seed)
            draw = Draw(source)
            task = draw.task(source.randint(1, 4))
            self.check(task, draw.state(task), drawn_patterns(source, task), seed)

    def test_large_certificates(self):
        numbers = (("n", (), 0, 21), ("m", (), 0, 21))
        steps = (up(3), action("turn", effects=(("add", "m", (), ONE), ("take", "n", (), ONE))))
        task = Task(facts=(("a", ()),), numbers=numbers, actions=steps, goal=("ge", number("m"), whole(21)))
        self.assertEqual(self.check(task, task.start_state(), [[("number", 0), ("number", 1)]]), (24, 4, 84))
        self.assertEqual(self.check(task, task.start_state(), [[("number", 0)], [("number", 1)]]), (24, 4, 21))


class ArgumentsTest(unittest.TestCase):
    state = ((True, False), (5,))

    def test_wrong_states(self):
        for state in (None, 0, (), ((True,), (5,)), ((True, False), (6,)), [(True, False), (5,)], ((1, 0), (5,))):
            for function in (level_lines, cut_lines, lambda task, one: projection_lines(task, [[]], one)):
                with self.assertRaises(BadValue) as caught:
                    function(errand(), state)
                self.assertEqual(caught.exception.name, "state")

    def test_wrong_patterns_come_first(self):
        for patterns in PatternsTest.bad_patterns:
            for state in (self.state, None):
                with self.assertRaises(BadValue) as caught:
                    projection_lines(errand(), patterns, state)
                self.assertEqual(caught.exception.name, "patterns")

    def test_large_patterns(self):
        numbers = (("n", (), 0, 100), ("m", (), 0, 100))
        steps = tuple(action("up" + name, effects=(("add", name, (), ONE),)) for name in "nm")
        task = Task(numbers=numbers, actions=steps)
        with self.assertRaises(TooLarge) as caught:
            projection_lines(task, [[("number", 0), ("number", 1)]], task.start_state())
        self.assertEqual(caught.exception.what, "pattern")

    def test_returned_lists_are_new(self):
        for function in (level_lines, cut_lines, lambda task, state: projection_lines(task, [[("fact", 1)]], state)):
            found = function(errand(), self.state)
            before = list(found)
            found.clear()
            self.assertEqual(function(errand(), self.state), before)

    def test_arguments_stay_as_they_are(self):
        patterns = [[("fact", 1)], [], [("number", 0), ("fact", 0)]]
        projection_lines(errand(), patterns, self.state)
        self.assertEqual(patterns, [[("fact", 1)], [], [("number", 0), ("fact", 0)]])


if __name__ == "__main__":
    unittest.main()

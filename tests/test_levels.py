"""Points 64, 65 and 72, and sureplan/levels.py."""

import random
import unittest

import boundoracle
from randoms import Draw, lively_case
from samples import FALSE, ONE, TRUE, action, fact, number, whole
from sureplan.errors import BadValue
from sureplan.levels import level_bound, levels
from sureplan.search import first_plan
from sureplan.tasks import Task
from test_outline import errand

N = number("n")


def counter(goal, *actions, facts=("a", "b")):
    return Task(facts=tuple((name, ()) for name in facts), numbers=(("n", (), 0, 9),), actions=actions, goal=goal)


START = ((False, False), (0,))
BOX = ((False, False), ((0, 0),))


class LevelsTest(unittest.TestCase):
    def test_the_worked_example(self):
        task, state = errand(), ((True, False), (5,))
        self.assertEqual(levels(task, state), [(0, ((True, False), ((5, 5),))), (3, ((None, None), ((3, 5),)))])
        self.assertEqual(level_bound(task, state), 3)

    def test_the_goal_may_hold_at_once(self):
        for goal in (TRUE, ("eq", N, whole(0)), ("not", fact("a"))):
            task = counter(goal, action("up", effects=(("add", "n", (), ONE),)))
            self.assertEqual(levels(task, START), [(0, BOX)])
            self.assertEqual(level_bound(task, START), 0)

    def test_no_way_on(self):
        task = counter(FALSE, action("stay"), action("not", condition=fact("a"), effects=(("make", "b", ()),)))
        self.assertEqual(levels(task, START), [(0, BOX)])
        self.assertIsNone(level_bound(task, START))
        task = counter(FALSE, action("up", effects=(("set", "n", (), whole(4)),), cost=whole(7)))
        self.assertEqual(levels(task, START), [(0, BOX), (7, ((False, False), ((0, 4),)))])
        self.assertIsNone(level_bound(task, START))
        self.assertIsNone(level_bound(Task(goal=FALSE), ((), ())))

    def test_several_pairs_of_the_same_cost(self):
        make_a = action("makea", effects=(("make", "a", ()),), cost=whole(2))
        make_b = action("makeb", effects=(("make", "b", ()),), cost=whole(2))
        later = action("later", effects=(("set", "n", (), whole(9)),), cost=whole(3))
        task = counter(FALSE, make_a, later, make_b)
        self.assertEqual(levels(task, START), [(0, BOX), (2, ((None, None), ((0, 0),))), (3, ((None, None), ((0, 9),)))])

    def test_steps_of_cost_0(self):
        free = action("free", effects=(("make", "a", ()),), cost=whole(0))
        more = action("more", condition=fact("a"), effects=(("make", "b", ()),), cost=whole(0))
        task = counter(fact("b"), more, free)
        self.assertEqual(levels(task, START), [(0, BOX), (0, ((None, False), ((0, 0),))), (0, ((None, None), ((0, 0),)))])
        self.assertEqual(level_bound(task, START), 0)
        last = action("last", condition=fact("b"), effects=(("set", "n", (), whole(5)),), cost=whole(4))
        task = counter(("ge", N, whole(5)), more, free, last)
        self.assertEqual(level_bound(task, START), 4)

    def test_the_least_cost_in_a_level_counts(self):
        up = action("up", effects=(("add", "n", (), whole(3)),), cost=("minus", whole(9), N))
        task = counter(("ge", N, whole(9)), up)
        self.assertEqual(levels(task, START), [(0, BOX), (9, ((False, False), ((0, 3),))), (15, ((False, False), ((0, 6),))),
                                               (18, ((False, False), ((0, 9),)))])
        self.assertEqual(level_bound(task, START), 18)

    def test_a_pair_of_an_earlier_level(self):
        # From the first level n can be set for 5; the levels at 1 and 3 come first.
        near = action("near", effects=(("make", "a", ()),), cost=ONE)
        next_one = action("next", condition=fact("a"), effects=(("make", "b", ()),), cost=whole(2))
        far = action("far", condition=("not", fact("a")), effects=(("set", "n", (), whole(2)),), cost=whole(5))
        task = counter(("eq", N, whole(2)), far, near, next_one)
        self.assertEqual([cost for cost, _ in levels(task, START)], [0, 1, 3, 5])
        self.assertEqual(levels(task, START)[-1], (5, ((None, None), ((0, 2),))))


class DrawnTest(unittest.TestCase):
    def check(self, seed, task, state):
        expected, bound = boundoracle.levels(task, state)
        self.assertEqual(levels(task, state), expected, seed)
        self.assertEqual(level_bound(task, state), bound, seed)
        plan = first_plan(task, state)
        if plan is not None:
            self.assertIsNotNone(bound, seed)
            self.assertLessEqual(bound, plan[0], seed)

    def test_drawn_tasks(self):
        for seed in range(250):
            source = random.Random(seed)
            task, state, _ = lively_case(source, facts=4, numbers=3)
            self.check(seed, task, state)
            draw = Draw(source)
            task = draw.task(source.randint(1, 4))
            self.check(seed, task, draw.state(task))

    def test_many_levels(self):
        up = action("up", effects=(("add", "n", (), ONE),))
        task = Task(facts=(("a", ()),), numbers=(("n", (), 0, 200),), actions=(up,), goal=("ge", N, whole(200)))
        self.assertEqual(len(levels(task, ((False,), (0,)))), 201)
        self.assertEqual(level_bound(task, ((False,), (0,))), 200)


class ArgumentsTest(unittest.TestCase):
    def test_wrong_states(self):
        for state in (None, 0, (), ((True,), (5,)), ((True, False), (6,)), [(True, False), (5,)], ((1, 0), (5,))):
            for function in (levels, level_bound):
                with self.assertRaises(BadValue) as caught:
                    function(errand(), state)
                self.assertEqual(caught.exception.name, "state")

    def test_returned_lists_are_new(self):
        task, state = errand(), ((True, False), (5,))
        found = levels(task, state)
        before = list(found)
        found.clear()
        self.assertEqual(levels(task, state), before)


if __name__ == "__main__":
    unittest.main()

"""Points 8, 28 and 30 to 34: reached states and first plans."""

import random
import unittest

import oracle
from randoms import Draw
from samples import FALSE, ONE, TRUE, action, fact, number, trip, whole
from sureplan.errors import BadValue, TooManyStates
from sureplan.running import run
from sureplan.search import first_plan, reached_states
from sureplan.tasks import Task


def grid(*highs):
    """Numbers that each can be raised by one step, from 0 to these values."""
    numbers = tuple((f"n{k}", (), 0, high) for k, high in enumerate(highs))
    steps = tuple(action(f"up{k}", effects=(("add", f"n{k}", (), ONE),)) for k in range(len(highs)))
    return Task(numbers=numbers, actions=steps)


def choice(*steps, goal=fact("c")):
    """Facts a, b, c, of which a holds at first; each step is (from, to, cost)."""
    actions = tuple(action(f"s{k}", (), fact(before), (("unmake", before, ()), ("make", then, ())), whole(cost))
                    for k, (before, then, cost) in enumerate(steps))
    return Task(facts=(("a", ()), ("b", ()), ("c", ()), ("d", ())), actions=actions, start=((("a", ()),), ()), goal=goal)


class ReachedStatesTest(unittest.TestCase):
    def test_the_order(self):
        task = grid(2, 1)
        self.assertEqual(reached_states(task, ((), (0, 0))),
                         [((), (0, 0)), ((), (1, 0)), ((), (0, 1)), ((), (2, 0)), ((), (1, 1)), ((), (2, 1))])
        self.assertEqual(reached_states(task, ((), (1, 0))), [((), (1, 0)), ((), (2, 0)), ((), (1, 1)), ((), (2, 1))])
        self.assertEqual(reached_states(task, ((), (2, 1))), [((), (2, 1))])

    def test_steps_that_lead_back(self):
        task = choice(("a", "b", 1), ("b", "a", 1))
        start = task.start_state()
        self.assertEqual(reached_states(task, start), [start, ((False, True, False, False), ())])

    def test_a_task_without_steps(self):
        self.assertEqual(reached_states(Task(), ((), ())), [((), ())])

    def test_three_thousand_and_one_more(self):
        task = grid(59, 49)
        states = reached_states(task, ((), (0, 0)))
        self.assertEqual(len(states), 3000)
        self.assertEqual(len(set(states)), 3000)
        corner = ("and", (("eq", number("n0"), whole(59)), ("eq", number("n1"), whole(49))))
        one_more = action("more", condition=corner, effects=(("make", "more", ()),))
        task = Task(facts=(("more", ()),), numbers=task.numbers, actions=task.actions + (one_more,))
        with self.assertRaises(TooManyStates) as caught:
            reached_states(task, ((False,), (0, 0)))
        self.assertEqual(caught.exception.limit, 3000)
        self.assertEqual(len(reached_states(task, ((False,), (1, 0)))), 2951)
        with self.assertRaises(TooManyStates):
            first_plan(task, ((False,), (0, 0)), TRUE)

    def test_oracle(self):
        draw = Draw(random.Random(4))
        for _ in range(40):
            task = draw.task()
            state = task.start_state()
            found = reached_states(task, state)
            self.assertEqual(found, oracle.reached(task, state))

    def test_wrong_state(self):
        for wrong in (None, ((), (3,)), ((), ()), [(), (0,)]):
            with self.assertRaises(BadValue) as caught:
                reached_states(grid(2), wrong)
            self.assertEqual(caught.exception.name, "state")

    def test_a_new_list(self):
        task = grid(2)
        reached_states(task, ((), (0,))).clear()
        self.assertEqual(len(reached_states(task, ((), (0,)))), 3)


class FirstPlanTest(unittest.TestCase):
    def plan(self, *steps, goal=fact("c")):
        task = choice(*steps, goal=goal)
        return first_plan(task, task.start_state())

    def test_the_example(self):
        task = trip()
        start = task.start_state()
        self.assertEqual(reached_states(task, start), [((True, False), (3,)), ((False, True), (2,))])
        self.assertEqual(first_plan(task, start), (2, [0]))
        self.assertIsNone(first_plan(task, start, ("eq", number("coins"), ONE)))

    def test_least_cost(self):
        self.assertEqual(self.plan(("a", "c", 5), ("a", "b", 2), ("b", "c", 2)), (4, [1, 2]))
        self.assertEqual(self.plan(("a", "c", 3), ("a", "b", 2), ("b", "c", 2)), (3, [0]))

    def test_fewest_steps_at_equal_cost(self):
        self.assertEqual(self.plan(("a", "b", 2), ("b", "c", 2), ("a", "c", 4)), (4, [2]))
        self.assertEqual(self.plan(("a", "b", 0), ("b", "c", 0), ("a", "c", 0)), (0, [2]))

    def test_least_steps_at_equal_cost_and_length(self):
        self.assertEqual(self.plan(("a", "d", 2), ("a", "b", 2), ("b", "c", 2), ("d", "c", 2)), (4, [0, 3]))
        self.assertEqual(self.plan(("b", "c", 1), ("a", "b", 2), ("a", "d", 1), ("d", "c", 2)), (3, [1, 0]))
        self.assertEqual(self.plan(("a", "c", 1), ("a", "c", 1)), (1, [0]))
        self.assertEqual(self.plan(("a", "c", 2), ("a", "c", 1)), (1, [1]))

    def test_steps_that_cost_nothing(self):
        self.assertEqual(self.plan(("a", "b", 0), ("b", "a", 0), ("b", "c", 0)), (0, [0, 2]))
        self.assertEqual(self.plan(("a", "a", 0)), None)

    def test_a_goal_that_holds_at_the_start(self):
        self.assertEqual(self.plan(("a", "b", 0), goal=fact("a")), (0, []))
        self.assertEqual(self.plan(("a", "b", 0), goal=TRUE), (0, []))

    def test_no_plan(self):
        self.assertIsNone(self.plan(("a", "b", 1)))
        self.assertIsNone(self.plan(goal=FALSE))
        self.assertIsNone(self.plan(("a", "c", -1)))

    def test_costs_that_depend_on_the_state(self):
        buy = action("buy", effects=(("add", "n", (), ONE),), cost=("minus", whole(10), ("times", 3, number("n"))))
        jump = action("jump", condition=("eq", number("n"), whole(0)), effects=(("set", "n", (), whole(3)),),
                      cost=whole(22))
        task = Task(numbers=(("n", (), 0, 9),), actions=(jump, buy), goal=("eq", number("n"), whole(3)))
        self.assertEqual(first_plan(task, ((), (0,))), (21, [1, 1, 1]))
        # from 4 on, buying would cost less than nothing and is not possible
        self.assertIsNone(first_plan(task, ((), (0,)), ("eq", number("n"), whole(5))))
        self.assertEqual(first_plan(task, ((), (0,)), ("eq", number("n"), whole(4))), (22, [1, 1, 1, 1]))

    def test_the_goal(self):
        task = choice(("a", "b", 2), ("b", "c", 3))
        start = task.start_state()
        self.assertEqual(first_plan(task, start, None), (5, [0, 1]))
        self.assertEqual(first_plan(task, start, goal=fact("b")), (2, [0]))
        for wrong in (fact("nobody"), ONE, "c", [], ("same", "?x", "?x"), False):
            with self.assertRaises(BadValue) as caught:
                first_plan(task, start, wrong)
            self.assertEqual(caught.exception.name, "goal")
        with self.assertRaises(BadValue) as caught:
            first_plan(task, None, "c")
        self.assertEqual(caught.exception.name, "state")

    def test_too_many_states(self):
        task = grid(200, 200)
        with self.assertRaises(TooManyStates) as caught:
            first_plan(task, ((), (0, 0)))
        self.assertEqual(caught.exception.limit, 3000)
        with self.assertRaises(BadValue):
            first_plan(task, ((), (0, 0)), "wrong")
        self.assertEqual(first_plan(task, ((), (199, 199)), ("ge", number("n1"), whole(200))), (1, [1]))

    def test_a_long_plan(self):
        task = grid(59, 49)
        goal = ("ge", ("plus", (number("n0"), number("n1"))), whole(108))
        self.assertEqual(first_plan(task, ((), (0, 0)), goal), (108, [0] * 59 + [1] * 49))

    def test_no_two_states_are_equal(self):
        draw = Draw(random.Random(5))
        for _ in range(40):
            task = draw.task()
            state = task.start_state()
            found = first_plan(task, state)
            if found is not None:
                states = [run(task, state, found[1][:k])[2] for k in range(len(found[1]) + 1)]
                self.assertEqual(len(set(states)), len(states))
                self.assertEqual(run(task, state, found[1])[1::2], (found[0], True))


class OracleTest(unittest.TestCase):
    def test_plans_between_few_states(self):
        draw = random.Random(6)
        facts = ("a", "b", "c", "d")
        found = 0
        for _ in range(150):
            steps = [(draw.choice(facts), draw.choice(facts), draw.randint(0, 2)) for _ in range(6)]
            task = choice(*[step for step in steps if step[0] != step[1]])
            expected = oracle.plan(task, task.start_state(), task.goal)
            self.assertEqual(first_plan(task, task.start_state()), expected)
            found += expected is not None
        self.assertGreater(found, 50)

    def test_drawn_tasks(self):
        draw = Draw(random.Random(7))
        compared = 0
        while compared < 60:
            task = draw.task(2)
            if len(reached_states(task, task.start_state())) < 9:
                compared += 1
                self.assertEqual(first_plan(task, task.start_state()), oracle.plan(task, task.start_state(), task.goal))


if __name__ == "__main__":
    unittest.main()

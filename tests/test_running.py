"""Points 27 and 29: runs of lists of steps, and the possible steps."""

import random
import unittest

import oracle
from randoms import Draw
from samples import ONE, action, fact, number, trip, whole
from sureplan.errors import BadValue
from sureplan.running import possible_steps, run
from sureplan.tasks import Task


def counter():
    """Step 0 adds 1 and costs what was there before, step 1 sets to 0, step 2 is never possible."""
    up = action("up", effects=(("add", "n", (), ONE),), cost=number("n"), time=("plus", (number("n"), ONE)))
    zero = action("zero", condition=("gt", number("n"), whole(0)), effects=(("set", "n", (), whole(0)),), cost=whole(0))
    never = action("never", condition=("false",))
    return Task(numbers=(("n", (), 0, 120),), actions=(up, zero, never), goal=("eq", number("n"), whole(3)))


class RunTest(unittest.TestCase):
    def test_runs(self):
        task = counter()
        self.assertEqual(run(task, ((), (0,)), []), ("done", 0, ((), (0,)), False))
        self.assertEqual(run(task, ((), (3,)), []), ("done", 0, ((), (3,)), True))
        self.assertEqual(run(task, ((), (0,)), [0, 0, 0]), ("done", 3, ((), (3,)), True))
        self.assertEqual(run(task, ((), (5,)), [0, 1, 0]), ("done", 5, ((), (1,)), False))
        answer = run(task, ((), (3,)), [])
        self.assertIs(answer[3], True)

    def test_first_step_that_is_not_possible(self):
        task = counter()
        for position in range(5):
            steps = [0] * position + [2] + [1, 1]
            self.assertEqual(run(task, ((), (0,)), steps), ("not", position, ("condition",)))
        self.assertEqual(run(task, ((), (119,)), [0, 0, 2]), ("not", 1, ("range", 0)))
        self.assertEqual(run(task, ((), (0,)), [1]), ("not", 0, ("condition",)))

    def test_hundred_steps(self):
        task = counter()
        self.assertEqual(run(task, ((), (0,)), [0] * 100), ("done", 4950, ((), (100,)), False))
        with self.assertRaises(BadValue) as caught:
            run(task, ((), (0,)), [0] * 101)
        self.assertEqual(caught.exception.name, "steps")
        with self.assertRaises(BadValue):
            run(task, ((), (0,)), [2] * 101)

    def test_the_example(self):
        task = trip()
        self.assertEqual(run(task, task.start_state(), [0]), ("done", 2, ((False, True), (2,)), True))
        self.assertEqual(run(task, task.start_state(), [0, 0]), ("not", 1, ("condition",)))

    def test_wrong_arguments(self):
        task = counter()
        state = ((), (0,))
        for steps in (None, (0,), "0", 0, [True], [0, False], [3], [-1], [None], [0, "0"], [[0]]):
            with self.assertRaises(BadValue) as caught:
                run(task, state, steps)
            self.assertEqual(caught.exception.name, "steps")
        for wrong in (None, ((), (121,)), ((), (True,)), [(), (0,)]):
            with self.assertRaises(BadValue) as caught:
                run(task, wrong, None)
            self.assertEqual(caught.exception.name, "state")
            with self.assertRaises(BadValue) as caught:
                possible_steps(task, wrong)
            self.assertEqual(caught.exception.name, "state")

    def test_arguments_stay(self):
        task = counter()
        steps = [0, 0, 1]
        first = run(task, ((), (0,)), steps)
        self.assertEqual(steps, [0, 0, 1])
        self.assertEqual(run(task, ((), (0,)), steps), first)


class PossibleStepsTest(unittest.TestCase):
    def test_possible_steps(self):
        task = counter()
        self.assertEqual(possible_steps(task, ((), (0,))), [(0, 0, 1)])
        self.assertEqual(possible_steps(task, ((), (7,))), [(0, 7, 8), (1, 0, 1)])
        self.assertEqual(possible_steps(task, ((), (120,))), [(1, 0, 1)])
        self.assertEqual(possible_steps(Task(), ((), ())), [])

    def test_a_new_list(self):
        task = counter()
        found = possible_steps(task, ((), (7,)))
        found.clear()
        self.assertEqual(len(possible_steps(task, ((), (7,)))), 2)

    def test_every_reason_leaves_a_step_out(self):
        task = Task(facts=(("a", ()),), numbers=(("n", (), 0, 1),), actions=(
            action("no", condition=fact("a")), action("both", effects=(("make", "a", ()), ("unmake", "a", ()))),
            action("ways", effects=(("set", "n", (), ONE), ("add", "n", (), ONE))),
            action("leave", effects=(("add", "n", (), whole(2)),)), action("cost", cost=whole(-1)),
            action("time", time=whole(0)), action("good", cost=whole(0), time=whole(4))))
        self.assertEqual(possible_steps(task, ((False,), (0,))), [(6, 0, 4)])

    def test_oracle(self):
        draw = Draw(random.Random(3))
        for _ in range(60):
            task = draw.task()
            state = draw.state(task)
            expected = []
            for step in range(len(task.all_steps())):
                answer = oracle.attempt(task, state, step)
                if answer[0] == "done":
                    expected.append((step, answer[1], answer[2]))
            self.assertEqual(possible_steps(task, state), expected)


if __name__ == "__main__":
    unittest.main()

"""Points 8, 47, 58, 60 and 62, and sureplan/certificates.py."""

import random
import unittest

from randoms import Draw, Lively, lively_case
from samples import FALSE, ONE, TRUE, action, fact, number, trip, whole, world
from sureplan.certificates import certificate
from sureplan.errors import BadValue, TooLarge, TooManyStates
from sureplan.judge import Judge
from sureplan.search import first_plan, reached_states
from sureplan.tasks import Task

A, B = number("a"), number("b")


def claim_of(task, state=None, goal=None):
    """The claim after the certificate, all of whose lines must be right."""
    lines = certificate(task, state, goal)
    judge = Judge(task, state, goal)
    for line in lines:
        assert judge.line(line) == "right", line
    assert lines[-1][0] == "claim"
    return judge.claim()


def grid(facts=0, is_longer=False):
    """15 times 200 states, with so many facts that never change; one state more if wished."""
    actions = [action("upa", effects=(("add", "a", (), ONE),)),
               action("upb", effects=(("add", "b", (), ONE),), cost=whole(2))]
    if is_longer:
        both = ("and", (("eq", A, whole(14)), ("eq", B, whole(199))))
        actions.append(action("end", condition=both, effects=(("make", "end", ()),)))
    many = facts - 1 if is_longer else facts
    full, rest = many // 30, many % 30
    entries = tuple((f"p{k}", ("Thing",)) for k in range(full)) + tuple((f"q{k}", ()) for k in range(min(rest, 8)))
    entries += (("end", ()),) if is_longer else ()
    objects = tuple((f"o{k}", "Thing") for k in range(30))
    return Task(objects=objects, facts=entries, numbers=(("a", (), 0, 14), ("b", (), 0, 199)), actions=tuple(actions),
                goal=("and", (("ge", A, whole(14)), ("ge", B, whole(199)))))


class DrawnTest(unittest.TestCase):
    def check(self, seed, task, state, goal=None):
        plan = first_plan(task, state, goal)
        self.assertEqual(claim_of(task, state, goal), "none" if plan is None else plan[0], seed)

    def test_lively_tasks(self):
        for seed in range(300):
            source = random.Random(seed)
            task, state, _ = lively_case(source, facts=4, numbers=3)
            self.check(seed, task, state)
            self.check(seed, task, state, FALSE)
            self.check(seed, task, state, TRUE)
            self.check(seed, task, state, Lively(source, 1, 0).condition())

    def test_tasks_with_all_forms(self):
        for seed in range(300):
            source = random.Random(seed)
            draw = Draw(source)
            task = draw.task(source.randint(1, 4))
            self.check(seed, task, draw.state(task))
            self.check(seed, task, draw.state(task), draw.formula(["a", "b"]))


class PlainTest(unittest.TestCase):
    def test_the_defaults(self):
        self.assertEqual(claim_of(trip()), 2)
        self.assertEqual(claim_of(trip(), None, ("eq", number("coins"), ONE)), "none")
        self.assertEqual(claim_of(trip(), ((True, False), (0,))), "none")
        self.assertEqual(claim_of(trip(), ((True, False), (9,)), ("eq", number("coins"), whole(8))), 2)
        self.assertEqual(claim_of(trip(), ((False, True), (0,))), 0)

    def test_a_task_without_anything(self):
        self.assertEqual(claim_of(Task()), 0)
        self.assertEqual(claim_of(Task(goal=FALSE)), "none")

    def test_it_is_a_list_of_lines(self):
        lines = certificate(world())
        self.assertIsInstance(lines, list)
        self.assertTrue(all(isinstance(line, tuple) for line in lines))
        before = list(lines)
        lines.clear()
        self.assertEqual(certificate(world()), before)

    def test_steps_of_cost_0(self):
        free = action("free", effects=(("make", "a", ()),), cost=whole(0))
        task = Task(facts=(("a", ()), ("b", ())), actions=(free,), goal=fact("a"))
        self.assertEqual(claim_of(task), 0)
        self.assertEqual(claim_of(task, None, fact("b")), "none")


class ErrorsTest(unittest.TestCase):
    def test_wrong_arguments(self):
        for state, goal, name in ((5, None, "state"), (((False,), ()), None, "state"), (0, 0, "state"), (None, 0, "goal"),
                                  (None, ("fact", "nothing", ()), "goal"), (((True, False), (3,)), ("fact",), "goal")):
            with self.assertRaises(BadValue) as caught:
                certificate(trip(), state, goal)
            self.assertEqual(caught.exception.name, name)

    def test_three_thousand_states(self):
        task = grid()
        self.assertEqual(len(reached_states(task, task.start_state())), 3000)
        self.assertEqual(claim_of(task), 14 + 2 * 199)
        with self.assertRaises(TooManyStates) as caught:
            certificate(grid(1, True))
        self.assertEqual(caught.exception.limit, 3000)
        # The goal does not matter, even if it holds in the state.
        with self.assertRaises(TooManyStates):
            certificate(grid(1, True), None, TRUE)

    def test_the_limit_of_cells(self):
        # 3000 states times one more than 97 facts and 2 numbers.
        self.assertEqual(claim_of(grid(97)), 412)
        with self.assertRaises(TooLarge) as caught:
            certificate(grid(98))
        self.assertEqual(caught.exception.what, "certificate")
        with self.assertRaises(TooLarge):
            certificate(grid(98), None, TRUE)

    def test_the_cells_count_the_states_that_are_reached(self):
        task = grid(98)
        self.assertEqual(claim_of(task, ((False,) * 98, (1, 0))), 411)

    def test_too_many_states_come_before_too_many_cells(self):
        with self.assertRaises(TooManyStates):
            certificate(grid(98, True))
        with self.assertRaises(BadValue):
            certificate(grid(98, True), None, 3)


if __name__ == "__main__":
    unittest.main()

"""Points 64, 66, 67 and 72, and sureplan/cuts.py."""

import random
import unittest
from unittest import mock

import boundoracle
from randoms import Draw, lively_case
from samples import FALSE, ONE, TRUE, action, fact, number, whole
from sureplan.cuts import MOST_CUTS, cut_bound, cuts
from sureplan.errors import BadValue, TooLarge
from sureplan.search import first_plan
from sureplan.tasks import Task
from test_levels import BOX, START, counter
from test_outline import errand

N = number("n")


def made(name, cost, condition=TRUE):
    return action("do" + name, condition=condition, effects=(("make", name, ()),), cost=whole(cost))


class CutsTest(unittest.TestCase):
    def test_the_worked_example(self):
        task, state = errand(), ((True, False), (5,))
        self.assertEqual(cuts(task, state), [(3, ((True, False), ((5, 5),)), [(1, 3)])])
        self.assertEqual(cut_bound(task, state), 3)

    def test_the_goal_may_hold_at_once(self):
        for goal in (TRUE, ("not", fact("b"))):
            task = counter(goal, made("a", 3))
            self.assertEqual(cuts(task, START), [])
            self.assertEqual(cut_bound(task, START), 0)

    def test_the_goal_may_hold_after_steps_of_cost_0(self):
        task = counter(fact("b"), made("a", 0), made("b", 0, fact("a")))
        self.assertEqual(cuts(task, START), [])
        self.assertEqual(cut_bound(task, START), 0)

    def test_the_amount_none(self):
        task = counter(FALSE, action("stay"))
        self.assertEqual(cuts(task, START), [(None, BOX, [])])
        self.assertIsNone(cut_bound(task, START))
        task = counter(FALSE, made("a", 4))
        self.assertEqual(cuts(task, START), [(4, BOX, [(0, 4)]), (None, ((None, False), ((0, 0),)), [])])
        self.assertIsNone(cut_bound(task, START))

    def test_several_cuts(self):
        # Both ways to b need a; the dearer one has 2 left when the cheaper one has 0.
        task = counter(fact("b"), made("a", 3), made("b", 5, fact("a")),
                       action("other", condition=fact("a"), effects=(("make", "b", ()),), cost=whole(7)))
        self.assertEqual(cuts(task, START), [(3, BOX, [(0, 3)]), (5, ((None, False), ((0, 0),)), [(1, 5), (2, 7)])])
        self.assertEqual(cut_bound(task, START), 8)

    def test_a_step_in_several_cuts(self):
        # Step 1 leads out of the first box with 3 of its 5, and out of the second one with the other 2.
        task = counter(("and", (fact("b"), ("ge", N, ONE))), made("a", 3),
                       action("all", effects=(("make", "b", ()), ("make", "a", ()), ("set", "n", (), ONE)), cost=whole(5)))
        self.assertEqual(cuts(task, START), [(3, BOX, [(0, 3), (1, 5)]), (2, ((None, False), ((0, 0),)), [(1, 5)])])
        self.assertEqual(cut_bound(task, START), 5)

    def test_what_is_left_is_rounded_down(self):
        # Step 1 costs 5 in the first box and 4 in the second one: 2/5 of 4 is 1 and a fraction.
        cost = ("minus", whole(5), N)
        task = counter(fact("b"), action("up", condition=("lt", N, ONE), effects=(("set", "n", (), ONE),), cost=whole(3)),
                       action("all", effects=(("make", "b", ()),), cost=cost))
        self.assertEqual(cuts(task, START), [(3, BOX, [(0, 3), (1, 5)]), (1, ((False, False), ((0, 1),)), [(1, 4)])])
        self.assertEqual(cut_bound(task, START), 4)
        self.assertEqual(first_plan(task, START)[0], 5)

    def test_a_rest_of_which_less_than_1_is_left(self):
        # Of step 1, 1/5 is left after the first cut; that is 0 of its cost 4, so that it is free.
        cost = ("minus", whole(5), N)
        task = counter(fact("b"), action("up", condition=("lt", N, ONE), effects=(("set", "n", (), ONE),), cost=whole(4)),
                       action("all", effects=(("make", "b", ()),), cost=cost))
        self.assertEqual(cuts(task, START), [(4, BOX, [(0, 4), (1, 5)])])
        self.assertEqual(cut_bound(task, START), 4)

    def test_the_box_grows_in_rounds(self):
        free = action("free", effects=(("add", "n", (), whole(4)),), cost=whole(0))
        task = counter(fact("a"), made("a", 6, ("ge", N, whole(7))), free)
        self.assertEqual(cuts(task, START), [(6, ((False, False), ((0, 9),)), [(0, 6)])])

    def test_the_limit(self):
        steps = [made(f"f{k}", 1, fact(f"f{k - 1}") if k else TRUE) for k in range(12)]
        task = Task(facts=tuple((f"f{k}", ()) for k in range(12)), actions=tuple(steps), goal=fact("f11"))
        state = task.start_state()
        dead = Task(facts=task.facts, actions=task.actions, goal=FALSE)
        self.assertEqual(cut_bound(task, state), 12)
        self.assertEqual(len(cuts(dead, state)), 13)
        # Each cut leaves nothing of a step, so no task has enough steps for more than 500; the limit is lowered here.
        self.assertEqual(MOST_CUTS, 500)
        for most, function, one, fits in ((12, cuts, task, True), (11, cuts, task, False), (13, cut_bound, dead, True),
                                          (12, cut_bound, dead, False)):
            with mock.patch("sureplan.cuts.MOST_CUTS", most):
                if fits:
                    function(one, state)
                else:
                    with self.assertRaises(TooLarge) as caught:
                        function(one, state)
                    self.assertEqual(caught.exception.what, "cuts")

    def test_four_hundred_steps_in_one_cut(self):
        objects = tuple((f"o{k}", "Thing") for k in range(20))
        mark = action("mark", (("?x", "Thing"), ("?y", "Thing")), effects=(("make", "f", ("?x",)), ("make", "g", ("?y",))))
        task = Task(objects=objects, facts=(("f", ("Thing",)), ("g", ("Thing",))), actions=(mark,), goal=FALSE)
        found = cuts(task, task.start_state())
        self.assertEqual([cut[0] for cut in found], [1, None])
        self.assertEqual(len(found[0][2]), 400)


class DrawnTest(unittest.TestCase):
    def check(self, seed, task, state):
        expected, bound = boundoracle.cuts(task, state)
        self.assertEqual(cuts(task, state), expected, seed)
        self.assertEqual(cut_bound(task, state), bound, seed)
        plan = first_plan(task, state)
        if plan is not None:
            self.assertIsNotNone(bound, seed)
            self.assertLessEqual(bound, plan[0], seed)

    def test_drawn_tasks(self):
        for seed in range(250):
            source = random.Random(seed)
            task, state, _ = lively_case(source, facts=4, numbers=3)
            self.check(seed, task, state)
            draw = Draw(source)
            task = draw.task(source.randint(1, 4))
            self.check(seed, task, draw.state(task))


class ArgumentsTest(unittest.TestCase):
    def test_wrong_states(self):
        for state in (None, 0, (), ((True,), (5,)), ((True, False), (6,)), [(True, False), (5,)], ((1, 0), (5,))):
            for function in (cuts, cut_bound):
                with self.assertRaises(BadValue) as caught:
                    function(errand(), state)
                self.assertEqual(caught.exception.name, "state")

    def test_returned_lists_are_new(self):
        task, state = errand(), ((True, False), (5,))
        found = cuts(task, state)
        found[0][2].append((0, 0))
        found.append(None)
        self.assertEqual(cuts(task, state), [(3, ((True, False), ((5, 5),)), [(1, 3)])])


if __name__ == "__main__":
    unittest.main()

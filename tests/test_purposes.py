"""Points 75 and 80 to 82, and sureplan/purposes.py."""

import random
import unittest

import oracle
import orderoracle
from randoms import lively_case
from samples import FALSE, ONE, TRUE, FailingCase, fact, number, whole
from sureplan.errors import BadValue, NotPossible, TooLarge
from sureplan.purposes import cheapest_part, purposes
from sureplan.running import run
from test_orders import ADD, LOSE_A, MAKE_A, MAKE_B, START, drawn_case, lamps, put, worker

N = number("n")
BOTH = ("and", (fact("a"), fact("b")))


def planned_case(source):
    """A task, a state, and a plan of at most 8 steps among which some others may stand."""
    task, state, plan = lively_case(source, least=2, facts=4, numbers=2)
    steps = [] if plan is None else plan[1]
    for _ in range(8 - len(steps)):
        place = source.randint(0, len(steps))
        longer = steps[:place] + [source.randrange(len(task.all_steps()))] + steps[place:]
        if run(task, state, longer)[0] == "done":
            steps = longer
    return task, state, steps[:8]


class PurposesTest(unittest.TestCase):
    """Point 80."""

    def test_the_example_of_the_document(self):
        task = lamps()
        self.assertEqual(purposes(task, [0, 1, 2, 1], task.start_state()),
                         [("step", 1, ("condition",)), ("nothing",), ("goal",), ("nothing",)])

    def test_no_steps(self):
        self.assertEqual(purposes(worker(), [], START), [])

    def test_the_first_step_that_is_not_possible(self):
        after_a = put("aftera", ("make", "b", ()), condition=fact("a"))
        after_b = put("afterb", ("make", "c", ()), condition=("or", (fact("b"), fact("c"))))
        task = worker(MAKE_A, after_a, after_b, goal=fact("c"))
        self.assertEqual(purposes(task, [0, 1, 2], START),
                         [("step", 1, ("condition",)), ("step", 2, ("condition",)), ("goal",)])
        # Positions are those in the whole list.
        self.assertEqual(purposes(task, [0, 0, 1, 2], START),
                         [("nothing",), ("nothing",), ("step", 3, ("condition",)), ("goal",)])

    def test_other_reasons(self):
        task = worker(put("down", ("take", "n", (), whole(2))), put("up", ("add", "n", (), whole(2))),
                      put("pay", ("make", "a", ()), cost=("minus", N, whole(4))), goal=fact("a"))
        self.assertEqual(purposes(task, [1, 0, 1, 1, 2], START), [("step", 1, ("range", 0)), ("nothing",),
                                                                  ("step", 4, ("cost",)), ("step", 4, ("cost",)),
                                                                  ("goal",)])

    def test_a_step_with_which_the_goal_holds_only_without_it(self):
        task = worker(MAKE_A, LOSE_A, goal=TRUE)
        self.assertEqual(purposes(task, [0, 1], START), [("nothing",), ("nothing",)])
        task = worker(MAKE_A, LOSE_A, goal=("not", fact("a")))
        self.assertEqual(purposes(task, [0, 1], START), [("nothing",), ("goal",)])

    def test_steps_that_do_not_reach_the_goal(self):
        for goal, steps in ((FALSE, []), (FALSE, [0]), (fact("b"), [0, 0]), (fact("a"), [0, 1]), (fact("a"), [])):
            with self.assertRaises(NotPossible) as caught:
                purposes(worker(MAKE_A, LOSE_A, goal=goal), steps, START)
            self.assertEqual((caught.exception.position, caught.exception.reason), (len(steps), ("goal",)))

    def test_drawn_steps(self):
        many = {}
        for seed in range(400):
            source = random.Random(seed)
            task, state, steps = planned_case(source) if seed % 2 else drawn_case(source, 8)
            if oracle.true_in(task, task.goal, run(task, state, steps)[2]):
                found = purposes(task, steps, state)
                self.assertEqual(found, orderoracle.purposes(task, steps, state), seed)
                for purpose in found:
                    many[purpose[0]] = many.get(purpose[0], 0) + 1
            else:
                with self.assertRaises(NotPossible) as caught:
                    purposes(task, steps, state)
                self.assertEqual((caught.exception.position, caught.exception.reason), (len(steps), ("goal",)))
        self.assertTrue(all(many[word] > 20 for word in ("step", "goal", "nothing")), many)


class CheapestPartTest(unittest.TestCase):
    """Point 81."""

    def test_the_example_of_the_document(self):
        task = lamps()
        self.assertEqual(cheapest_part(task, [0, 1, 2, 1], task.start_state()), (3, [0, 1, 2]))

    def test_no_part_is_a_plan(self):
        self.assertIsNone(cheapest_part(worker(MAKE_A, goal=fact("b")), [0, 0], START))
        self.assertIsNone(cheapest_part(worker(goal=FALSE), [], START))

    def test_the_empty_part(self):
        self.assertEqual(cheapest_part(worker(goal=TRUE), [], START), (0, []))
        self.assertEqual(cheapest_part(worker(MAKE_A, goal=("not", fact("a"))), [0, 0], START), (0, []))
        free = put("free", ("make", "a", ()), cost=whole(0))
        self.assertEqual(cheapest_part(worker(free, goal=TRUE), [0, 0], START), (0, []))

    def test_the_steps_themselves_need_not_reach_the_goal(self):
        task = worker(MAKE_A, LOSE_A, goal=fact("a"))
        self.assertEqual(cheapest_part(task, [0, 1], START), (1, [0]))
        self.assertEqual(cheapest_part(task, [0, 1, 0], START), (1, [0]))

    def test_equal_costs_with_different_numbers_of_steps(self):
        both = put("both", ("make", "a", ()), ("make", "b", ()), cost=whole(2))
        task = worker(MAKE_A, MAKE_B, both, goal=BOTH)
        self.assertEqual(cheapest_part(task, [0, 1, 2], START), (2, [2]))
        free = put("free", ("make", "c", ()), cost=whole(0))
        self.assertEqual(cheapest_part(worker(free, MAKE_A, goal=fact("a")), [0, 1, 0], START), (1, [1]))

    def test_the_cost_comes_before_the_number_of_steps(self):
        both = put("both", ("make", "a", ()), ("make", "b", ()), cost=whole(3))
        self.assertEqual(cheapest_part(worker(MAKE_A, MAKE_B, both, goal=BOTH), [2, 0, 1], START), (2, [1, 2]))

    def test_equal_costs_and_numbers(self):
        task = worker(MAKE_A, MAKE_B, goal=BOTH)
        self.assertEqual(cheapest_part(task, [1, 0, 1, 0], START), (2, [0, 1]))
        self.assertEqual(cheapest_part(task, [0, 0, 1, 1], START), (2, [0, 2]))
        self.assertEqual(cheapest_part(worker(MAKE_A, goal=fact("a")), [0, 0, 0], START), (1, [0]))

    def test_the_cost_is_that_of_the_part_by_itself(self):
        # Step 1 costs what n is; step 0 adds to n and is not needed.
        task = worker(ADD, put("pay", ("make", "a", ()), cost=N), goal=fact("a"))
        self.assertEqual(cheapest_part(task, [0, 1], START), (0, [1]))
        # Step 0 makes step 1 cheaper.
        task = worker(ADD, put("pay", ("make", "a", ()), cost=("minus", whole(9), ("times", 3, N))), goal=fact("a"))
        self.assertEqual(cheapest_part(task, [0, 0, 1], START), (5, [0, 1, 2]))

    def test_eight_steps(self):
        task = worker(ADD, goal=("ge", N, whole(4)))
        self.assertEqual(cheapest_part(task, [0] * 8, START), (4, [0, 1, 2, 3]))

    def test_drawn_steps(self):
        for seed in range(300):
            source = random.Random(seed)
            task, state, steps = drawn_case(source, 8)
            self.assertEqual(cheapest_part(task, steps, state), orderoracle.cheapest_part(task, steps, state), seed)

    def test_returned_lists_are_new(self):
        task = worker(MAKE_A, goal=fact("a"))
        for function in (purposes, lambda *arguments: cheapest_part(*arguments)[1]):
            steps = [0]
            found = function(task, steps, START)
            before = list(found)
            found.clear()
            self.assertEqual(steps, [0])
            self.assertEqual(function(task, steps, START), before)


class ErrorsTest(FailingCase):
    """Point 75: the errors in their order."""

    functions = (purposes, cheapest_part)

    def test_wrong_steps(self):
        task = worker(MAKE_A, MAKE_B, goal=FALSE)
        for steps in (None, (0, 1), "0", 0, {}, [2], [-1], [0, 2], [True], ["0"], [None], [0] * 9 + [2]):
            for state in (START, None):
                for caught in self.fails(BadValue, task, steps, state):
                    self.assertEqual(caught.name, "steps")

    def test_eight_steps_and_nine(self):
        task = worker(MAKE_A, put("never", condition=FALSE), goal=fact("a"))
        self.assertEqual(purposes(task, [0] * 8, START), [("nothing",)] * 8)
        self.assertEqual(cheapest_part(task, [0] * 8, START), (1, [0]))
        for steps in ([0] * 9, [1] * 9, [0] * 101):
            for state in (START, None):
                for caught in self.fails(TooLarge, task, steps, state):
                    self.assertEqual(caught.what, "steps")

    def test_wrong_states(self):
        task = worker(MAKE_A, put("never", condition=FALSE), goal=FALSE)
        for state in (None, 0, (), ((True,), (0,)), ((False,) * 3, (10,)), [(False,) * 3, (0,)]):
            for steps in ([], [0], [1]):
                for caught in self.fails(BadValue, task, steps, state):
                    self.assertEqual(caught.name, "state")

    def test_steps_that_are_not_possible(self):
        task = worker(MAKE_A, put("never", condition=fact("c")), goal=FALSE)
        for caught in self.fails(NotPossible, task, [0, 1, 1], START):
            self.assertEqual((caught.position, caught.reason), (1, ("condition",)))
        both = put("both", ("make", "a", ()), ("unmake", "a", ()), cost=ONE)
        for caught in self.fails(NotPossible, worker(both), [0], START):
            self.assertEqual((caught.position, caught.reason), (0, ("both", 0)))


if __name__ == "__main__":
    unittest.main()

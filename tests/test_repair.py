"""Points 96 to 100, and sureplan/repair.py."""

import random
import unittest
from itertools import product

import oracle
import restoracle
from randoms import Draw, Lively, lively_case
from samples import FALSE, ONE, TRUE, action, fact, number, whole
from sureplan.errors import BadValue, TooManyStates
from sureplan.repair import edit_count, kept_positions, repair
from sureplan.running import run
from sureplan.search import first_plan
from sureplan.tasks import Task

N = number("n")


def put(name, *effects, condition=TRUE, cost=ONE):
    return action(name, condition=condition, effects=effects, cost=cost)


def work():
    """The example of the interface."""
    look = ("look", (), ("true",), (("make", "seen", ()),), ("int", 0), ("int", 1), ())
    go = ("go", (), ("true",), (("make", "done", ()),), ("int", 2), ("int", 1), ())
    return Task(facts=(("seen", ()), ("done", ())), actions=(look, go), goal=("fact", "done", ()))


def counter(most, up_cost, down_cost, goal, *actions):
    """A number n from 0 to `most`; step 0 adds 1, step 1 takes 1."""
    return Task(facts=(("a", ()),), numbers=(("n", (), 0, most),), goal=goal,
                actions=(put("up", ("add", "n", (), ONE), cost=whole(up_cost)),
                         put("down", ("take", "n", (), ONE), cost=whole(down_cost))) + actions)


def grid(rows, columns, goal):
    """Two numbers m and n with rows times columns states; the steps add 1 to m and to n, and set both to 0."""
    return Task(numbers=(("m", (), 0, rows - 1), ("n", (), 0, columns - 1)), goal=goal,
                actions=(put("upm", ("add", "m", (), ONE)), put("upn", ("add", "n", (), ONE)),
                         put("back", ("set", "m", (), whole(0)), ("set", "n", (), whole(0)), cost=whole(0))))


def reach(value):
    return ("eq", N, whole(value))


class EditCountTest(unittest.TestCase):
    """Point 96."""

    def test_the_example_of_the_interface(self):
        self.assertEqual(edit_count([0, 1, 1], [1, 0, 1]), 2)

    def test_edges(self):
        for old, new, expected in (([], [], 0), ([1, 2], [], 2), ([], [1, 2, 3], 3), ([1, 2, 3], [1, 2, 3], 0),
                                   ([1, 2], [3, 4, 5], 5), ([1], [1, 1, 1], 2), ([1, 1, 1], [1], 2), ([1, 2], [2, 1], 2),
                                   ([1, 2, 3, 4], [4, 3, 2, 1], 6), ([1, 2, 3], [1, 3], 1), ([7], [7], 0), ([7], [8], 2)):
            self.assertEqual(edit_count(old, new), expected, (old, new))
            self.assertEqual(restoracle.edit_count(old, new), expected)

    def test_integers_that_are_no_steps(self):
        self.assertEqual(edit_count([-5, 10 ** 20, 3], [10 ** 20, -5]), 3)

    def test_drawn_lists(self):
        source = random.Random(1)
        for _ in range(150):
            old = [source.randrange(3) for _ in range(source.randint(0, 6))]
            new = [source.randrange(3) for _ in range(source.randint(0, 6))]
            self.assertEqual(edit_count(old, new), restoracle.edit_count(old, new), (old, new))
            self.assertEqual(edit_count(old, new), edit_count(new, old))

    def test_long_lists(self):
        self.assertEqual(edit_count([0, 1] * 100, [1, 0] * 100), 2)
        self.assertEqual(edit_count(list(range(300)), list(range(150, 450))), 300)


class KeptPositionsTest(unittest.TestCase):
    """Point 97."""

    def test_the_example_of_the_interface(self):
        self.assertEqual(kept_positions([0, 1, 1], [1, 0, 1]), [0, 1])

    def test_edges(self):
        for old, new, expected in (([], [], []), ([1, 2], [], []), ([], [1], []), ([1, 2, 3], [1, 2, 3], [0, 1, 2]),
                                   ([1, 2], [3], []), ([1, 1, 1], [1], [0]), ([1, 1, 1], [1, 1], [0, 1]),
                                   ([1, 2], [2, 1], [0]), ([2, 1], [1, 2], [0]), ([3, 1, 2], [1, 2, 3], [1, 2]),
                                   ([1, 2, 1, 2], [2, 1], [1, 2]), ([1, 2, 1], [1, 1], [0, 2]),
                                   ([-5, 10 ** 20], [10 ** 20, -5], [0])):
            self.assertEqual(kept_positions(old, new), expected, (old, new))
            self.assertEqual(restoracle.kept_positions(old, new), expected)

    def test_the_first_position_is_not_kept_at_any_price(self):
        # Position 0 is in no longest common part.
        self.assertEqual(kept_positions([3, 1, 2], [1, 2, 3]), [1, 2])
        self.assertEqual(kept_positions([3, 1, 3, 2], [1, 3, 2]), [1, 2, 3])

    def test_all_short_lists(self):
        for long in range(5):
            for old in product(range(2), repeat=long):
                for other in range(4):
                    for new in product(range(2), repeat=other):
                        self.assertEqual(kept_positions(list(old), list(new)),
                                         restoracle.kept_positions(list(old), list(new)), (old, new))

    def test_drawn_lists(self):
        source = random.Random(2)
        for _ in range(150):
            old = [source.randrange(3) for _ in range(source.randint(0, 6))]
            new = [source.randrange(3) for _ in range(source.randint(0, 6))]
            self.assertEqual(kept_positions(old, new), restoracle.kept_positions(old, new), (old, new))

    def test_the_arguments_stay_as_they_are(self):
        old, new = [0, 1, 1], [1, 0, 1]
        kept_positions(old, new).append(9)
        edit_count(old, new)
        self.assertEqual((old, new), ([0, 1, 1], [1, 0, 1]))
        self.assertEqual(kept_positions(old, new), [0, 1])


class RepairTest(unittest.TestCase):
    """Points 98 to 100."""

    def check(self, task, steps, expected, state=None):
        self.assertEqual(repair(task, steps, state), expected)
        start = task.start_state() if state is None else state
        self.assertEqual(restoracle.repair(task, steps, start), expected)

    def test_the_example_of_the_interface(self):
        self.check(work(), [1, 0], (2, [1, 0], [0, 1]))
        self.check(work(), [0, 1, 1], (2, [0, 1], [0, 1]))
        self.check(work(), [1, 0], (0, [0], [1]), ((False, True), ()))

    def test_after_the_goal_with_steps_of_cost_0(self):
        # The repair goes on after the goal as far as this saves edits, also round and round.
        task = counter(2, 1, 0, ("le", N, whole(1)))
        self.check(task, [1, 1], (0, [1, 1], [0, 1]), ((False,), (2,)))
        self.check(task, [1, 0, 1], (0, [1, 1], [0, 2]), ((False,), (2,)))
        idle = counter(2, 1, 1, reach(1), put("idle", cost=whole(0)))
        self.check(idle, [2, 2, 2, 0, 2, 2], (1, [2, 2, 2, 0, 2, 2], [0, 1, 2, 3, 4, 5]))
        self.check(idle, [2, 1, 2, 2], (1, [0, 2, 2, 2], [0, 2, 3]))
        self.check(idle, [2, 2], (0, [2, 2], [0, 1]), ((False,), (1,)))
        # A step after the goal that leaves it must come back.
        there = counter(2, 0, 0, reach(1))
        self.check(there, [0, 0], (0, [0], [0]))
        self.check(there, [0, 0, 1], (0, [0, 0, 1], [0, 1, 2]))
        self.check(there, [0, 0, 1, 0, 1, 1], (0, [0, 0, 1, 0, 1], [0, 1, 2, 3, 4]))

    def test_cycles_of_cost_0(self):
        there = counter(3, 0, 0, reach(3))
        self.check(there, [0, 1, 0, 0], (0, [0, 0, 0], [0, 2, 3]))
        self.check(there, [0, 1, 0, 1, 0, 0, 0], (0, [0, 1, 0, 1, 0, 0, 0], [0, 1, 2, 3, 4, 5, 6]))
        self.check(there, [1, 1], (0, [0, 0, 0], []), None)

    def test_lower_cost_comes_first(self):
        # The list leads to the goal at a cost of 3, and a step at a cost of 2 leads there, too.
        task = counter(3, 1, 1, reach(3), put("jump", ("set", "n", (), whole(3)), cost=whole(2)))
        self.check(task, [0, 0, 0], (2, [2], []))
        self.check(task, [0, 0, 2], (2, [2], [2]))

    def test_fewer_edits_come_before_fewer_steps(self):
        task = counter(3, 1, 1, reach(3), put("jump", ("set", "n", (), whole(3)), cost=whole(3)))
        self.check(task, [0, 0, 0], (3, [0, 0, 0], [0, 1, 2]))
        self.check(task, [0, 0], (3, [0, 0, 0], [0, 1]))
        self.check(task, [0], (3, [2], []))
        self.check(task, [], (3, [2], []))

    def test_the_plan_that_comes_first(self):
        both = Task(facts=(("a", ()), ("b", ())), goal=("and", (fact("a"), fact("b"))),
                    actions=(put("x", ("make", "a", ())), put("y", ("make", "b", ()))))
        self.check(both, [], (2, [0, 1], []))
        self.check(both, [1], (2, [0, 1], [0]))
        self.check(both, [0], (2, [0, 1], [0]))
        self.check(both, [1, 0], (2, [1, 0], [0, 1]))

    def test_the_list_itself(self):
        """Point 99."""
        both = Task(facts=(("a", ()), ("b", ())), goal=("and", (fact("a"), fact("b"))),
                    actions=(put("x", ("make", "a", ())), put("y", ("make", "b", ())), put("z", cost=whole(0))))
        for steps in ([0, 1], [1, 0], [2, 1, 2, 2, 0], [1, 0, 2], [2] * 98 + [1, 0], [1] + [2] * 98 + [0]):
            self.assertEqual(repair(both, steps), (2, steps, list(range(len(steps)))))

    def test_the_empty_list(self):
        for seed in range(60):
            source = random.Random(seed)
            draw = Lively(source, source.randint(1, 3), source.randint(0, 2))
            task = draw.task(source.randint(1, 5))
            state = draw.state(task)
            plan = first_plan(task, state)
            self.assertEqual(repair(task, [], state), plan and plan + ([],), seed)

    def test_no_plan(self):
        self.check(counter(3, 1, 1, FALSE), [0, 1], None)
        self.check(counter(3, 1, 1, fact("a")), [], None)
        self.check(counter(3, 1, 1, fact("a")), [0], (0, [], []), ((True,), (0,)))

    def test_the_goal_holds_at_the_start(self):
        self.check(counter(3, 1, 1, TRUE), [0, 1, 1], (0, [], []))
        self.check(counter(3, 1, 0, TRUE), [0, 1, 1], (0, [], []))
        self.check(counter(3, 1, 0, TRUE), [0, 1, 1], (0, [1, 1], [1, 2]), ((False,), (2,)))
        self.check(counter(3, 1, 0, TRUE), [], (0, [], []), ((False,), (2,)))

    def test_steps_that_are_not_possible(self):
        task = counter(3, 1, 1, reach(2), put("never", condition=FALSE, cost=whole(0)))
        self.check(task, [2, 0, 2, 0, 2], (2, [0, 0], [1, 3]))
        self.check(task, [1, 1, 1], (2, [0, 0], []))

    def test_a_goal_that_lies_back(self):
        # From another state than the start, and with costs that depend on the state.
        task = Task(numbers=(("n", (), 0, 4),), goal=reach(0),
                    actions=(put("down", ("take", "n", (), ONE), cost=N),
                             put("zero", ("set", "n", (), whole(0)), cost=("plus", (N, ONE)))))
        self.check(task, [1], (3, [1], [0]), ((), (2,)))
        self.check(task, [0, 0], (3, [0, 0], [0, 1]), ((), (2,)))
        self.check(task, [0], (3, [0, 0], [0]), ((), (2,)))
        self.check(task, [0, 1], (5, [1], [1]), ((), (4,)))

    def test_drawn_lists(self):
        counts = {"none": 0, "kept": 0, "other": 0, "longer": 0}
        for seed in range(400):
            source = random.Random(seed)
            if source.random() < 0.2:
                task = Draw(source).task(source.randint(1, 3))
                state = Draw(source).state(task)
                first = first_plan(task, state)
            else:
                task, state, first = lively_case(source, 0)
            steps = self.drawn_steps(source, task, first)
            if first is not None and len(task.all_steps()) ** (len(steps) + len(first[1])) > 30000:
                continue
            expected = restoracle.repair(task, steps, state)
            self.assertEqual(repair(task, steps, state), expected, seed)
            if expected is None:
                counts["none"] += 1
            else:
                counts["kept" if expected[2] else "other"] += 1
                self.assertEqual(expected[0], first[0])
                counts["longer"] += len(expected[1]) > len(first[1])
        self.assertGreater(min(counts.values()), 20, counts)

    def drawn_steps(self, source, task, first):
        """A list of up to five steps, often made from the first plan."""
        many = len(task.all_steps())
        steps = [source.randrange(many) for _ in range(source.randint(0, 4))]
        if first is not None and source.random() < 0.6:
            steps = list(first[1])[:4]
            for _ in range(source.randint(1, 2)):
                steps.insert(source.randint(0, len(steps)), source.randrange(many))
        return steps

    def test_drawn_larger_tasks(self):
        """The cost, the count of edits of all cheaper lists, and the positions, read off the repair."""
        for seed in range(60):
            source = random.Random(seed)
            draw = Lively(source, source.randint(2, 4), source.randint(1, 3))
            task = draw.task(source.randint(3, 7))
            state = draw.state(task)
            steps = [source.randrange(len(task.all_steps())) for _ in range(source.randint(0, 12))]
            found, first = repair(task, steps, state), first_plan(task, state)
            self.assertEqual(found is None, first is None, seed)
            if found is not None:
                cost, plan, kept = found
                done = run(task, state, plan)
                self.assertEqual((done[0], done[1], done[3]), ("done", first[0], True), seed)
                self.assertEqual(cost, first[0])
                self.assertEqual(kept, kept_positions(steps, plan))
                self.assertLessEqual((edit_count(steps, plan), len(plan)), (edit_count(steps, first[1]), len(first[1])))
                # A repaired list is a plan of least cost, so it is its own repair.
                if len(plan) <= 100:
                    self.assertEqual(repair(task, plan, state), (cost, plan, list(range(len(plan)))), seed)

    def test_3000_states(self):
        task = grid(60, 50, ("and", (("eq", number("m"), whole(59)), reach(49))))
        state = ((), (57, 48))
        self.assertEqual(repair(task, [1, 2, 0], state), (3, [0, 1, 0], [0, 2]))
        self.assertIsNone(repair(grid(60, 50, FALSE), [0], state))
        cost, plan, kept = repair(task, [0, 1] * 50)
        self.assertEqual((cost, sorted(plan), len(kept)), (108, [0] * 59 + [1] * 49, 99))

    def test_3001_states(self):
        wide = Task(facts=(("a", ()),), numbers=(("m", (), 0, 59), ("n", (), 0, 49)), goal=("true",),
                    actions=(put("upm", ("add", "m", (), ONE)), put("upn", ("add", "n", (), ONE)),
                             put("leave", ("make", "a", ()), condition=("and", (("eq", number("m"), whole(59)), reach(49))))))
        for goal in (TRUE, FALSE, reach(1)):
            task = Task(facts=wide.facts, numbers=wide.numbers, actions=wide.actions, goal=goal)
            for steps in ([], [0, 1]):
                with self.assertRaises(TooManyStates) as caught:
                    repair(task, steps)
                self.assertEqual(caught.exception.limit, 3000)
        self.assertEqual(repair(wide, [1], ((False,), (1, 0))), (0, [], []))

    def test_wrong_arguments(self):
        task = work()
        for steps in (None, (0,), "0", 0, {}, [2], [-1], [0, 2], [True], [0, False], [None], ["0"], [0] * 101, [0] * 101 + [9]):
            for state in (None, task.start_state(), 0):
                with self.assertRaises(BadValue) as caught:
                    repair(task, steps, state)
                self.assertEqual(caught.exception.name, "steps")
        for state in (0, (), False, ((False,), ()), ((False, False), (0,)), [(False, False), ()], ((0, 0), ())):
            with self.assertRaises(BadValue) as caught:
                repair(task, [0], state)
            self.assertEqual(caught.exception.name, "state")
        # A wrong state comes before too many states.
        big = Task(numbers=(("n", (), 0, 200), ("m", (), 0, 200)),
                   actions=(put("upm", ("add", "m", (), ONE)), put("upn", ("add", "n", (), ONE))))
        for steps, state, name in (([0], ((), (201, 0)), "state"), ([2], ((), (0, 0)), "steps")):
            with self.assertRaises(BadValue) as caught:
                repair(big, steps, state)
            self.assertEqual(caught.exception.name, name)
        self.assertEqual(repair(task, [0] * 100), (2, [0] * 100 + [1], list(range(100))))

    def test_the_list_may_be_used_and_changed(self):
        task, steps = work(), [1, 0]
        found = repair(task, steps)
        self.assertEqual(steps, [1, 0])
        found[1].clear()
        found[2].clear()
        self.assertEqual(repair(task, steps), (2, [1, 0], [0, 1]))
        self.assertEqual(oracle.plan(task, task.start_state(), task.goal), (2, [1]))


if __name__ == "__main__":
    unittest.main()

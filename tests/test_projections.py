"""Points 64, 66, 68 to 70 and 72, and sureplan/projections.py."""

import random
import unittest

import boundoracle
from randoms import Draw, lively_case
from samples import FALSE, ONE, TRUE, action, fact, number, whole
from sureplan.errors import BadValue, TooLarge
from sureplan.outline import outline
from sureplan.projections import projection_bound, projections
from sureplan.search import first_plan
from sureplan.tasks import Task
from test_levels import START, counter
from test_outline import errand

N = number("n")


def made(name, cost, condition=TRUE):
    return action("do" + name, condition=condition, effects=(("make", name, ()),), cost=whole(cost))


def up(cost=1):
    return action("up", effects=(("add", "n", (), ONE),), cost=whole(cost))


def costs(task, patterns, state=START):
    return [[cost for _, cost in parts] for parts in projections(task, patterns, state)]


def drawn_patterns(source, task, most=4):
    """One to four patterns of a few items each."""
    items = [("fact", k) for k in range(len(task.all_facts()))] + [("number", k) for k in range(len(task.all_numbers()))]
    return [source.sample(items, source.randint(0, min(most, len(items)))) for _ in range(source.randint(1, 4))]


class PartsTest(unittest.TestCase):
    """Point 68."""

    def test_the_worked_example(self):
        task, state = errand(), ((True, False), (5,))
        self.assertEqual(projections(task, [[("fact", 1)]], state),
                         [[(((None, True), ((0, 5),)), 0), (((None, False), ((0, 5),)), 3)]])
        self.assertEqual(projection_bound(task, [[("fact", 1)]], state), 3)

    def test_an_empty_pattern(self):
        task = counter(fact("b"), made("a", 3), made("b", 5, fact("a")))
        self.assertEqual(projections(task, [[]], START), [[(outline(task, START), 0)]])
        self.assertEqual(projection_bound(task, [[]], START), 0)
        task = counter(FALSE, made("a", 3))
        self.assertEqual(projections(task, [[], []], START), [[(((None, False), ((0, 0),)), None)]] * 2)
        self.assertIsNone(projection_bound(task, [[]], START))

    def test_the_order_of_the_parts(self):
        task = counter(FALSE, made("a", 3), made("b", 5), up())
        found = projections(task, [[("fact", 1), ("number", 0)], [("number", 0), ("fact", 0)]], ((False, False), (7,)))
        self.assertEqual([box for box, _ in found[0]], [((None, entry), ((value, value),)) for entry in (True, False)
                                                        for value in (7, 8, 9)])
        self.assertEqual([box for box, _ in found[1]], [((entry, None), ((value, value),)) for value in (7, 8, 9)
                                                        for entry in (True, False)])

    def test_a_fact_to_which_the_outline_gives_an_entry(self):
        task = counter(fact("a"), made("a", 3))
        found = projections(task, [[("fact", 1)], [("fact", 0), ("fact", 1)]], START)
        self.assertEqual(found[0], [(((None, False), ((0, 0),)), 0)])
        self.assertEqual(found[1], [(((True, False), ((0, 0),)), 0), (((False, False), ((0, 0),)), 3)])
        found = projections(task, [[("fact", 1)]], ((False, True), (0,)))
        self.assertEqual(found, [[(((None, True), ((0, 0),)), 0)]])

    def test_the_greatest_size(self):
        # The sizes count both values of a fact, even if the outline gives it an entry.
        numbers = (("n", (), 0, 125), ("m", (), 0, 125), ("k", (), 0, 200))
        steps = tuple(action("up" + name, effects=(("add", name, (), ONE),)) for name in "nmk")
        task = Task(facts=(("a", ()), ("b", ())), numbers=numbers, actions=steps, goal=("ge", N, whole(125)))
        state = ((False, False), (1, 0, 150))
        facts = [("fact", 0), ("fact", 1)]
        self.assertEqual(len(projections(task, [facts + [("number", 0)]], state)[0]), 125)
        self.assertEqual(len(projections(task, [[("fact", 0), ("number", 2)]], state)[0]), 51)
        for pattern in (facts + [("number", 1)], [("number", 0), ("number", 2)], [("number", 2), ("number", 1)]):
            for patterns in ([pattern], [[], pattern], [pattern, []]):
                for function in (projections, projection_bound):
                    with self.assertRaises(TooLarge) as caught:
                        function(task, patterns, state)
                    self.assertEqual(caught.exception.what, "pattern")

    def test_the_sizes_500_and_501(self):
        numbers = (("n", (), 0, 19), ("m", (), 0, 24), ("i", (), 0, 2), ("j", (), 0, 166))
        steps = tuple(action("up" + name, effects=(("add", name, (), ONE),)) for name in "nmij")
        task = Task(numbers=numbers, actions=steps, goal=("ge", N, whole(19)))
        self.assertEqual(len(projections(task, [[("number", 0), ("number", 1)]], task.start_state())[0]), 500)
        with self.assertRaises(TooLarge):
            projections(task, [[("number", 2), ("number", 3)]], task.start_state())
        self.assertEqual(len(projections(task, [[("number", 2), ("number", 3)]], ((), (0, 0, 0, 1)))[0]), 498)

    def test_eight_items(self):
        task = Task(facts=tuple((f"f{k}", ()) for k in range(9)), actions=(made("f0", 1),), goal=fact("f0"))
        pattern = [("fact", k) for k in range(8)]
        self.assertEqual(costs(task, [pattern], task.start_state()), [[0, 1]])
        self.assertEqual(costs(task, [pattern] * 4, task.start_state()), [[0, 1]] + [[0, 0]] * 3)


class CostsTest(unittest.TestCase):
    """Points 69 and 70."""

    def test_ways_one_after_another(self):
        task = counter(("ge", N, whole(4)), up(2))
        self.assertEqual(costs(task, [[("number", 0)]]), [[8, 6, 4, 2, 0, 0, 0, 0, 0, 0]])
        self.assertEqual(projection_bound(task, [[("number", 0)]], START), 8)
        self.assertEqual(projection_bound(task, [[("number", 0)]], ((False, False), (3,))), 2)

    def test_the_goal_holds_in_the_state(self):
        task = counter(("eq", N, whole(0)), up(2))
        self.assertEqual(projection_bound(task, [[("number", 0)]], START), 0)
        # From the other parts no way leads back to the goal.
        self.assertEqual(costs(task, [[("number", 0)]]), [[0] + [None] * 9])
        self.assertIsNone(projection_bound(task, [[("number", 0)]], ((False, False), (3,))))
        self.assertEqual(projection_bound(task, [[]], START), 0)

    def test_ways_of_cost_0(self):
        task = counter(fact("b"), made("a", 0), made("b", 4, fact("a")))
        self.assertEqual(costs(task, [[("fact", 0), ("fact", 1)]]), [[0, 4, 0, 4]])
        self.assertEqual(costs(task, [[("fact", 0)]]), [[0, 0]])
        self.assertEqual(costs(task, [[("fact", 1)]]), [[0, 4]])

    def test_parts_from_which_no_way_leads_to_the_goal(self):
        lose = action("lose", condition=fact("a"), effects=(("unmake", "a", ()),))
        task = counter(fact("b"), made("b", 4, fact("a")), lose)
        state = ((True, False), (0,))
        self.assertEqual(costs(task, [[("fact", 0), ("fact", 1)]], state), [[0, 4, 0, None]])
        self.assertEqual(projection_bound(task, [[("fact", 0), ("fact", 1)]], state), 4)
        self.assertIsNone(projection_bound(task, [[("fact", 0), ("fact", 1)]], START))
        # One cost that is None is enough.
        self.assertIsNone(projection_bound(task, [[("fact", 1)], [("fact", 0), ("fact", 1)]], START))

    def test_later_patterns_use_what_earlier_ones_leave(self):
        both = action("both", effects=(("make", "a", ()), ("make", "b", ())), cost=whole(5))
        task = counter(("and", (fact("a"), fact("b"))), made("a", 2), made("b", 3), both)
        a, b = [("fact", 0)], [("fact", 1)]
        self.assertEqual(costs(task, [a, b]), [[0, 2], [0, 3]])
        # The dear step gives 2/5 of its cost to the first pattern, 3/5 are left for the second one.
        self.assertEqual(projection_bound(task, [a, b], START), 5)
        self.assertEqual(costs(task, [a, a, b]), [[0, 2], [0, 0], [0, 3]])
        self.assertEqual(costs(task, [a + b, a]), [[0, 3, 2, 5], [0, 0]])
        cheap = action("both", effects=both[3], cost=whole(4))
        task = counter(("and", (fact("a"), fact("b"))), made("a", 2), made("b", 3), cheap)
        self.assertEqual(costs(task, [a, b]), [[0, 2], [0, 2]])
        self.assertEqual(costs(task, [b, a]), [[0, 3], [0, 1]])

    def test_what_is_left_is_rounded_down(self):
        # From n = 0 the step costs 5, from n = 1 on it costs 3; the first pattern takes 4/5.
        step = action("step", effects=(("make", "a", ()), ("make", "b", ())), cost=("minus", whole(5), N))
        other = made("a", 4)
        task = counter(("and", (fact("a"), fact("b"))), step, other)
        self.assertEqual(costs(task, [[("fact", 0)], [("fact", 1)]]), [[0, 4], [0, 1]])
        task = Task(facts=task.facts, numbers=(("n", (), 0, 2),), actions=task.actions + (up(9),), goal=task.goal)
        self.assertEqual(costs(task, [[("fact", 0)], [("fact", 1)]]), [[0, 3], [0, 0]])
        self.assertEqual(costs(task, [[("fact", 0), ("number", 0)], [("fact", 1)]]), [[0, 0, 0, 4, 4, 3], [0, 0]])

    def test_the_greatest_quotient_counts_once(self):
        # Two ways of one step: from n = 0 to 3 it saves 6, from 3 to 6 it saves 3 of its cost 6.
        step = action("step", condition=("lt", N, whole(6)), effects=(("add", "n", (), whole(3)),), cost=whole(6))
        cheap = action("cheap", condition=("eq", N, whole(3)), effects=(("set", "n", (), whole(6)),), cost=whole(3))
        task = counter(("ge", N, whole(6)), step, cheap)
        self.assertEqual(costs(task, [[("number", 0)]])[0][0], 9)
        self.assertEqual(costs(task, [[("number", 0)], [("number", 0)]])[1], [0] * 9)

    def test_the_greatest_quotient_wherever_it_stands(self):
        # The step saves all of its cost 4 from one of the values 0 and 1 of n, and 1 of it from the other one.
        for cheap_at, cheap_cost in ((1, 1), (0, 5)):
            step = action("step", effects=(("add", "n", (), ONE), ("make", "b", ())), cost=whole(4))
            cheap = action("cheap", condition=("eq", N, whole(cheap_at)), cost=whole(cheap_cost),
                           effects=(("set", "n", (), whole(2)),))
            task = Task(facts=(("a", ()), ("b", ())), numbers=(("n", (), 0, 2),), actions=(step, cheap),
                        goal=("and", (("eq", N, whole(2)), fact("b"))))
            # Nothing of the step is left for the second pattern.
            self.assertEqual(costs(task, [[("number", 0)], [("fact", 1)]]), [[5, 4 - 3 * cheap_at, 0], [0, 0]])
            self.assertEqual(costs(task, [[("fact", 1)]]), [[0, 4]])

    def test_a_way_to_several_parts(self):
        # The box after the step leaves b open in the projection to n and b.
        luck = action("luck", effects=(("when", fact("a"), (("make", "b", ()),)),), cost=whole(2))
        task = counter(fact("b"), made("a", 5), luck)
        self.assertEqual(costs(task, [[("fact", 1)]]), [[0, 2]])
        self.assertEqual(costs(task, [[("fact", 1), ("fact", 0)]]), [[0, 0, 2, 7]])


class DrawnTest(unittest.TestCase):
    def check(self, seed, source, task, state):
        patterns = drawn_patterns(source, task)
        before = [list(pattern) for pattern in patterns]
        expected, bound = boundoracle.projections(task, patterns, state)
        self.assertEqual(projections(task, patterns, state), expected, (seed, patterns))
        self.assertEqual(projection_bound(task, patterns, state), bound, (seed, patterns))
        self.assertEqual(patterns, before)
        plan = first_plan(task, state)
        if plan is not None:
            self.assertIsNotNone(bound, seed)
            self.assertLessEqual(bound, plan[0], seed)

    def test_drawn_tasks(self):
        for seed in range(200):
            source = random.Random(seed)
            task, state, _ = lively_case(source, facts=4, numbers=3)
            self.check(seed, source, task, state)
            draw = Draw(source)
            task = draw.task(source.randint(1, 4))
            self.check(seed, source, task, draw.state(task))


class ArgumentsTest(unittest.TestCase):
    bad_patterns = (None, 0, (), ([],), {}, "fact", [], [[]] * 5, [()], [None], [[], 0], [[("fact", 2)]], [[("fact", -1)]],
                    [[("number", 1)]], [[("fact", True)]], [[("fact", "0")]], [[("fact",)]], [[("fact", 0, 0)]],
                    [[["fact", 0]]], [[("facts", 0)]], [[("step", 0)]], [[(0, "fact")]], [[()]], [[None]], [["fact"]],
                    [[("fact", 0), ("fact", 0)]], [[("number", 0), ("fact", 0), ("number", 0)]],
                    [[("fact", 0)], [("number", 0), ("number", 0)]], [[("fact", [0])]], [[(["fact"], 0)]],
                    [[("fact", None)]], [[("number", 1.0)]])

    def test_wrong_patterns(self):
        for patterns in self.bad_patterns:
            for state in (((True, False), (5,)), None):
                for function in (projections, projection_bound):
                    with self.assertRaises(BadValue) as caught:
                        function(errand(), patterns, state)
                    self.assertEqual(caught.exception.name, "patterns", patterns)

    def test_numbers_of_patterns_and_items(self):
        task = Task(facts=tuple((f"f{k}", ()) for k in range(9)))
        items = [("fact", k) for k in range(9)]
        for many in (1, 2, 4):
            self.assertEqual(projection_bound(task, [items[:8]] * many, task.start_state()), 0)
        for patterns in ([], [[]] * 5, [items], [items[:8], items]):
            with self.assertRaises(BadValue) as caught:
                projection_bound(task, patterns, task.start_state())
            self.assertEqual(caught.exception.name, "patterns")

    def test_wrong_states(self):
        for state in (None, 0, (), ((True,), (5,)), ((True, False), (6,)), [(True, False), (5,)], ((1, 0), (5,))):
            for function in (projections, projection_bound):
                with self.assertRaises(BadValue) as caught:
                    function(errand(), [[("fact", 1)]], state)
                self.assertEqual(caught.exception.name, "state")

    def test_wrong_states_come_before_large_patterns(self):
        numbers = (("n", (), 0, 100), ("m", (), 0, 100))
        steps = tuple(action("up" + name, effects=(("add", name, (), ONE),)) for name in "nm")
        task = Task(numbers=numbers, actions=steps)
        with self.assertRaises(BadValue):
            projections(task, [[("number", 0), ("number", 1)]], ((), (0, 101)))
        with self.assertRaises(TooLarge):
            projections(task, [[("number", 0), ("number", 1)]], ((), (0, 0)))

    def test_returned_lists_are_new(self):
        task, state = errand(), ((True, False), (5,))
        found = projections(task, [[("fact", 1)]], state)
        found[0].clear()
        found.append(0)
        self.assertEqual(costs(task, [[("fact", 1)]], state), [[0, 3]])


if __name__ == "__main__":
    unittest.main()

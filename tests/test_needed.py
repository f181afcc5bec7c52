"""Points 93 to 95, the example of their chapter, and sureplan/needed.py."""

import random
import unittest

import restoracle
from samples import FALSE, ONE, TRUE, fact, number, whole
from sureplan.errors import BadValue, TooLarge
from sureplan.needed import follow, needed
from sureplan.tasks import Task
from sureplan.watching import works
from test_watching import M, N, coins, drawn_rest, put, worker


def switches(goal, *numbers, actions=()):
    """A task with the facts f(s0) to f(s12) and some numbers."""
    return Task(kinds=(("Switch", "Thing"),), objects=tuple((f"s{k}", "Switch") for k in range(13)),
                facts=(("f", ("Switch",)),), numbers=numbers, goal=goal, actions=actions)


def reading(*places):
    """A formula that always holds and reads the switches at these places."""
    return ("or", (TRUE,) + tuple(fact("f", f"s{k}") for k in places))


def comb(high, goal=TRUE):
    """A task with a number from 0 to `high` and ten steps that all are possible only if it is even."""
    steps = tuple(put(f"x{k}", condition=("not", ("or", tuple(
        ("eq", N, whole(value)) for value in range(20 * k + 1, 20 * k + 20, 2))))) for k in range(10))
    return switches(goal, ("n", (), 0, high), actions=steps)


class NeededTest(unittest.TestCase):
    def check(self, task, steps, expected=None):
        tree = needed(task, steps)
        self.assertEqual(tree, restoracle.needed(task, steps))
        if expected is not None:
            self.assertEqual(tree, expected)

    def test_the_example_of_the_document(self):
        self.check(coins(), [0], [("fact", 0, 4), ("number", 0, 2, 3), ("leaf", False), ("leaf", True), ("leaf", False)])

    def test_one_leaf(self):
        self.check(worker(), [], [("leaf", True)])
        self.check(worker(goal=FALSE), [], [("leaf", False)])
        self.check(worker(put("x", ("make", "a", ())), goal=fact("a")), [0], [("leaf", True)])
        # What is read need not matter.
        self.check(worker(put("x", condition=("or", (fact("a"), ("not", fact("a"))))), goal=("le", N, whole(9))), [0],
                   [("leaf", True)])

    def test_facts_come_in_ascending_order(self):
        self.check(worker(goal=("and", (fact("c"), fact("a")))), [],
                   [("fact", 0, 4), ("fact", 2, 3), ("leaf", True), ("leaf", False), ("leaf", False)])
        self.check(worker(goal=("or", (fact("b"), fact("a")))), [],
                   [("fact", 0, 2), ("leaf", True), ("fact", 1, 4), ("leaf", True), ("leaf", False)])
        self.check(worker(goal=("implies", fact("a"), fact("c"))), [],
                   [("fact", 0, 4), ("fact", 2, 3), ("leaf", True), ("leaf", False), ("leaf", True)])

    def test_intervals(self):
        goal = ("or", (("le", N, ONE), ("and", (("ge", N, whole(5)), ("le", N, whole(7))))))
        self.check(worker(goal=goal), [],
                   [("number", 0, 1, 2), ("leaf", True), ("number", 0, 4, 4), ("leaf", False), ("number", 0, 7, 6),
                    ("leaf", True), ("leaf", False)])
        self.check(worker(goal=("eq", N, whole(0))), [], [("number", 0, 0, 2), ("leaf", True), ("leaf", False)])
        self.check(worker(goal=("eq", N, whole(9))), [], [("number", 0, 8, 2), ("leaf", False), ("leaf", True)])

    def test_numbers_come_in_ascending_order_behind_facts(self):
        goal = ("and", (("le", N, M), fact("b")))
        self.check(worker(goal=goal), [],
                   [("fact", 1, 18), ("number", 0, 0, 5), ("number", 1, -1, 4), ("leaf", False), ("leaf", True),
                    ("number", 0, 1, 9), ("number", 1, 0, 8), ("leaf", False), ("leaf", True),
                    ("number", 0, 2, 13), ("number", 1, 1, 12), ("leaf", False), ("leaf", True),
                    ("number", 0, 3, 17), ("number", 1, 2, 16), ("leaf", False), ("leaf", True), ("leaf", False),
                    ("leaf", False)])
        self.check(worker(goal=("ge", ("plus", (N, M)), whole(11))), [],
                   [("number", 0, 7, 2), ("leaf", False), ("number", 0, 8, 6), ("number", 1, 2, 5), ("leaf", False),
                    ("leaf", True), ("number", 1, 1, 8), ("leaf", False), ("leaf", True)])

    def test_ranges(self):
        # A step must stay in the range, and a range of a single value asks for nothing.
        task = Task(numbers=(("n", (), 4, 4), ("m", (), 0, 3)), actions=(put("x", ("take", "m", (), ("minus", N, whole(2)))),))
        self.check(task, [0], [("number", 1, 1, 2), ("leaf", False), ("leaf", True)])
        self.check(task, [0, 0], [("leaf", False)])

    def test_drawn_rests(self):
        sizes = {}
        for seed in range(120):
            source = random.Random(seed)
            for _ in range(8):
                task, steps, _ = drawn_rest(source, 3)
                expected = restoracle.needed(task, steps)
                leaves = len([node for node in expected if node[0] == "leaf"])
                if leaves > 4:
                    break
            sizes[leaves > 4] = sizes.get(leaves > 4, 0) + 1
            if leaves <= 200 and restoracle.cases(task, steps) <= 4096:
                self.assertEqual(needed(task, steps), expected, seed)
                for state in source.choices(list(restoracle.all_states(task)), k=4):
                    self.assertEqual(follow(expected, state), works(task, steps, state) is None, seed)
        self.assertGreater(sizes[True], 20)

    def test_the_form_of_drawn_trees(self):
        """Point 94, read off the nodes."""
        for seed in range(200):
            task, steps, _ = drawn_rest(random.Random(seed))
            tree = needed(task, steps)
            self.assertEqual(self.look(tree, 0, ((), (-1,))), len(tree), seed)

    def look(self, tree, at, asked):
        """Checks the subtree at an index, and returns the index behind it."""
        node = tree[at]
        if node[0] == "leaf":
            self.assertIn(node, (("leaf", True), ("leaf", False)))
            return at + 1
        self.assertEqual((node[0] == "fact", len(node)), (node[0] == "fact", 3 if node[0] == "fact" else 4))
        place = (0 if node[0] == "fact" else 1, node[1])
        if asked[0] != ():
            self.assertLessEqual(asked[0], place)
            if asked[0] == place:
                # The same item is asked again on the second side of a number alone, with a greater value.
                self.assertEqual(asked[2], "second")
                self.assertLess(asked[1][0], node[2])
        bound = (node[2],) if place[0] == 1 else (0,)
        middle = self.look(tree, at + 1, (place, bound, "first"))
        self.assertEqual(node[-1], middle)
        end = self.look(tree, middle, (place, bound, "second" if place[0] == 1 else "first"))
        first = [other[:-1] + (other[-1] - at - 1,) if other[0] != "leaf" else other for other in tree[at + 1:middle]]
        second = [other[:-1] + (other[-1] - middle,) if other[0] != "leaf" else other for other in tree[middle:end]]
        self.assertNotEqual(first, second)
        return end

    def test_a_returned_list_is_new(self):
        tree = needed(coins(), [0])
        tree.clear()
        self.check(coins(), [0])


class LimitsTest(unittest.TestCase):
    """Point 95."""

    def too_large(self, task, steps):
        with self.assertRaises(TooLarge) as caught:
            needed(task, steps)
        return caught.exception.what

    def test_4096_cases_and_more(self):
        self.assertEqual(needed(switches(reading(*range(12))), []), [("leaf", True)])
        self.assertEqual(self.too_large(switches(reading(*range(13))), []), "cases")
        # A number that is read counts as many cases as its range has values.
        read = ("or", (reading(*range(6)), ("le", N, whole(0))))
        self.assertEqual(needed(switches(read, ("n", (), 1, 64)), []), [("leaf", True)])
        self.assertEqual(self.too_large(switches(read, ("n", (), 1, 65)), []), "cases")
        self.assertEqual(needed(switches(reading(*range(6)), ("n", (), 1, 65)), []), [("leaf", True)])
        # 2 to the power of 11, times 2, and times 3.
        read = ("or", (reading(*range(11)), ("le", N, whole(0))))
        self.assertEqual(needed(switches(read, ("n", (), 0, 1)), []), [("leaf", True)])
        self.assertEqual(self.too_large(switches(read, ("n", (), 0, 2)), []), "cases")
        # A range of one value counts once.
        self.assertEqual(needed(switches(("or", (reading(*range(12)), ("le", N, whole(0)))), ("n", (), 7, 7)), []),
                         [("leaf", True)])

    def test_each_is_counted_once(self):
        task = switches(reading(*range(12)),
                        actions=(put("x", condition=reading(*range(12))), put("y", condition=fact("f", "s12")),
                                 put("z", ("make", "f", ("s12",)))))
        self.assertEqual(needed(task, [0, 0, 0]), [("leaf", True)])
        self.assertEqual(needed(task, [0, 2]), [("leaf", True)])
        self.assertEqual(self.too_large(task, [0, 1]), "cases")
        self.assertEqual(self.too_large(task, [1]), "cases")

    def test_numbers_that_are_added_to(self):
        task = switches(reading(*range(5)), ("n", (), 0, 127), ("m", (), 0, 1),
                        actions=(put("x", ("add", "n", (), whole(0))), put("y", ("add", "m", (), whole(0))),
                                 put("z", ("set", "m", (), ONE))))
        self.assertEqual(needed(task, [0, 2]), [("leaf", True)])
        self.assertEqual(self.too_large(task, [0, 1]), "cases")

    def test_200_leaves_and_201(self):
        for high, leaves in ((198, 199), (199, 200)):
            tree = needed(comb(high), list(range(10)))
            self.assertEqual(len([node for node in tree if node[0] == "leaf"]), leaves)
            self.assertEqual(tree[:3], [("number", 0, 0, 2), ("leaf", True), ("number", 0, 1, 4)])
        self.assertEqual(self.too_large(comb(200), list(range(10))), "leaves")
        self.assertEqual(len(needed(comb(200), list(range(9)))), 2 * 181 - 1)

    def test_leaves_of_all_sides_count(self):
        # Where the switch is on, every value has a leaf; where it is off, the values from 97 on have one together.
        goal = ("or", (fact("f", "s0"), ("le", N, whole(97))))
        tree = needed(comb(101, goal), list(range(10)))
        self.assertEqual(len([node for node in tree if node[0] == "leaf"]), 102 + 98)
        self.assertEqual(self.too_large(comb(102, goal), list(range(10))), "leaves")

    def test_cases_come_before_leaves(self):
        self.assertEqual(self.too_large(comb(200, reading(*range(4))), list(range(10))), "leaves")
        self.assertEqual(self.too_large(comb(200, reading(*range(5))), list(range(10))), "cases")

    def test_wrong_arguments(self):
        task = coins()
        for steps in (None, (0,), "0", 0, {}, [1], [-1], [True], [0, False], [None], ["0"], [0] * 21 + [1]):
            with self.assertRaises(BadValue) as caught:
                needed(task, steps)
            self.assertEqual(caught.exception.name, "steps")
        # Too many steps come before too many cases.
        wide = switches(reading(*range(13)), actions=(put("x"),))
        self.assertEqual(self.too_large(wide, [0] * 21), "steps")
        self.assertEqual(self.too_large(wide, [0] * 20), "cases")
        self.assertEqual(needed(task, [0] * 20), [("leaf", False)])

    def test_the_argument_stays_as_it_is(self):
        steps = [0]
        needed(coins(), steps)
        self.assertEqual(steps, [0])


class FollowTest(unittest.TestCase):
    def test_trees_that_were_written_by_hand(self):
        state = ((True, False), (5, -2))
        self.assertIs(follow([("leaf", True)], state), True)
        self.assertIs(follow([("leaf", False)], state), False)
        for node, first in ((("fact", 0, 2), True), (("fact", 1, 2), False), (("number", 0, 5, 2), True),
                            (("number", 0, 4, 2), False), (("number", 1, -2, 2), True), (("number", 1, -3, 2), False),
                            (("number", 0, 100, 2), True), (("number", 1, -100, 2), False)):
            self.assertIs(follow([node, ("leaf", True), ("leaf", False)], state), first)
            self.assertIs(follow([node, ("leaf", False), ("leaf", True)], state), not first)

    def test_deeper_trees(self):
        # These trees need not be those that `needed` writes: items come in any order, and sides may be equal.
        tree = [("number", 1, 0, 6), ("fact", 1, 5), ("fact", 0, 4), ("leaf", True), ("leaf", False), ("leaf", False),
                ("fact", 0, 8), ("leaf", True), ("number", 0, 3, 10), ("leaf", True), ("leaf", False)]
        for state, expected in ((((True, True), (0, 0)), True), (((False, True), (0, 0)), False),
                                (((True, False), (0, 0)), False), (((True, True), (9, 1)), True),
                                (((False, True), (3, 1)), True), (((False, True), (4, 1)), False)):
            self.assertIs(follow(tree, state), expected)

    def test_a_long_chain(self):
        tree = []
        for value in range(3000):
            tree += [("number", 0, value, 2 * value + 2), ("leaf", value == 2500)]
        tree.append(("leaf", True))
        self.assertIs(follow(tree, ((), (2500,))), True)
        self.assertIs(follow(tree, ((), (2501,))), False)
        self.assertIs(follow(tree, ((), (3000,))), True)


if __name__ == "__main__":
    unittest.main()

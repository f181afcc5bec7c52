"""Points 75 to 79 and 82, and sureplan/orders.py."""

import random
import unittest
from itertools import permutations

import orderoracle
from randoms import Draw, Lively
from samples import ONE, TRUE, FailingCase, action, fact, number, whole
from sureplan.errors import BadValue, NotPossible, TooLarge
from sureplan.meaning import try_step
from sureplan.orders import goes_alike, kept_pairs, pair_witnesses
from sureplan.tasks import Task

N = number("n")


def lamps():
    """The example of point 82."""
    connect = ("connect", (), ("true",), (("make", "power", ()),), ("int", 1), ("int", 1), ())
    light = ("light", (("?x", "Lamp"),), ("fact", "power", ()), (("make", "lit", ("?x",)),), ("int", 1), ("int", 1), ())
    goal = ("and", (("fact", "lit", ("red",)), ("fact", "lit", ("green",))))
    return Task(kinds=(("Lamp", "Thing"),), objects=(("red", "Lamp"), ("green", "Lamp")),
                facts=(("lit", ("Lamp",)), ("power", ())), actions=(connect, light), goal=goal)


def worker(*actions, **parts):
    """Facts a, b and c and a number n from 0 to 9, and some actions without parameters."""
    return Task(facts=(("a", ()), ("b", ()), ("c", ())), numbers=(("n", (), 0, 9),), actions=actions, **parts)


def put(name, *effects, condition=TRUE, cost=ONE, time=ONE):
    return action(name, condition=condition, effects=effects, cost=cost, time=time)


START = ((False, False, False), (0,))
ADD = put("addone", ("add", "n", (), ONE))
DOUBLE = put("double", ("set", "n", (), ("times", 2, N)))
MAKE_A, MAKE_B = put("makea", ("make", "a", ())), put("makeb", ("make", "b", ()))
LOSE_A = put("losea", ("unmake", "a", ()))


def drawn_steps(source, task, state, most):
    """Up to so many steps that are possible one after another."""
    steps = []
    for _ in range(source.randint(0, most)):
        possible = [(step, answer[3]) for step in range(len(task.all_steps()))
                    for answer in [try_step(task, state, step)] if answer[0] == "done"]
        if not possible:
            break
        step, state = source.choice(possible)
        steps.append(step)
    return steps


def drawn_case(source, most):
    """A task, a state and a list of steps that are possible from there."""
    if source.random() < 0.3:
        draw = Draw(source)
    else:
        draw = Lively(source, source.randint(1, 4), source.randint(0, 3))
    task = draw.task(source.randint(1, 5))
    state = draw.state(task)
    return task, state, drawn_steps(source, task, state, most)


class ExampleTest(unittest.TestCase):
    def test_the_example_of_the_document(self):
        task = lamps()
        self.assertEqual(kept_pairs(task, [0, 1, 2, 1], task.start_state()), ([(0, 1), (0, 2), (0, 3)], 6))
        self.assertEqual(pair_witnesses(task, [0, 1, 2, 1], task.start_state()),
                         [[1, 0, 2, 3], [2, 0, 1, 3], [3, 0, 1, 2]])


class GoesAlikeTest(unittest.TestCase):
    """Point 76."""

    def test_a_step_is_not_possible(self):
        task = lamps()
        self.assertTrue(goes_alike(task, [0, 1, 2], task.start_state(), [0, 1, 2]))
        self.assertTrue(goes_alike(task, [0, 1, 2], task.start_state(), [0, 2, 1]))
        self.assertFalse(goes_alike(task, [0, 1, 2], task.start_state(), [1, 0, 2]))

    def test_another_last_state(self):
        task = worker(ADD, DOUBLE, MAKE_A, LOSE_A)
        self.assertFalse(goes_alike(task, [0, 1], START, [1, 0]))
        self.assertFalse(goes_alike(task, [1, 0], START, [1, 0]))
        self.assertTrue(goes_alike(task, [1, 1], START, [1, 0]))
        self.assertFalse(goes_alike(task, [2, 3], START, [1, 0]))
        self.assertTrue(goes_alike(task, [2, 3, 2], START, [2, 1, 0]))
        self.assertTrue(goes_alike(task, [2, 0], START, [1, 0]))

    def test_another_cost(self):
        task = worker(ADD, put("pay", ("make", "a", ()), cost=N))
        self.assertFalse(goes_alike(task, [0, 1], START, [1, 0]))
        self.assertFalse(goes_alike(task, [1, 0], START, [1, 0]))
        task = worker(ADD, put("pay", ("make", "a", ()), cost=("times", 0, N)))
        self.assertTrue(goes_alike(task, [0, 1], START, [1, 0]))
        # The total cost is the same, but not the cost of each of the steps.
        task = worker(put("swap", ("set", "n", (), ("minus", whole(2), N)), cost=N), put("pay", cost=("minus", whole(2), N)))
        self.assertFalse(goes_alike(task, [0, 1], START, [1, 0]))

    def test_another_time(self):
        task = worker(ADD, put("wait", ("make", "a", ()), time=("plus", (ONE, N))))
        self.assertFalse(goes_alike(task, [0, 1], START, [1, 0]))
        task = worker(MAKE_A, put("wait", ("make", "b", ()), time=("plus", (ONE, N))))
        self.assertTrue(goes_alike(task, [0, 1], START, [1, 0]))

    def test_a_step_that_occurs_twice(self):
        # The cost of a step belongs to its position.
        task = worker(put("up", ("add", "n", (), ONE), cost=N))
        self.assertTrue(goes_alike(task, [0, 0], START, [0, 1]))
        self.assertFalse(goes_alike(task, [0, 0], START, [1, 0]))
        self.assertTrue(goes_alike(worker(ADD), [0, 0, 0], START, [2, 0, 1]))

    def test_no_steps(self):
        self.assertTrue(goes_alike(worker(), [], START, []))

    def test_no_orders(self):
        task = worker(MAKE_A, MAKE_B)
        for order in (None, (0, 1), "01", [], [0], [1], [0, 0], [1, 2], [0, 1, 2], [0, 1, 1], [-1, 0], [0, -1], [True, 0],
                      [0, True], [False, True], ["0", "1"], [0, None], [[0], [1]], {0: 0, 1: 1}, 0):
            with self.assertRaises(BadValue) as caught:
                goes_alike(task, [0, 1], START, order)
            self.assertEqual(caught.exception.name, "order", order)
        with self.assertRaises(BadValue):
            goes_alike(task, [], START, [0])

    def test_the_arguments_stay_as_they_are(self):
        steps, order = [0, 1], [1, 0]
        goes_alike(worker(MAKE_A, MAKE_B), steps, START, order)
        self.assertEqual((steps, order), ([0, 1], [1, 0]))


class PairsTest(unittest.TestCase):
    """Points 77 to 79."""

    def check(self, task, steps, pairs, count, witnesses, state=START):
        self.assertEqual(kept_pairs(task, steps, state), (pairs, count))
        self.assertEqual(pair_witnesses(task, steps, state), witnesses)
        self.assertEqual(orderoracle.kept_pairs(task, steps, state)[1:], (pairs, count, witnesses))

    def test_no_steps_and_one_step(self):
        self.check(worker(), [], [], 1, [])
        self.check(worker(MAKE_A), [0], [], 1, [])

    def test_any_order(self):
        self.check(worker(MAKE_A, MAKE_B), [0, 1], [], 2, [])
        self.check(worker(MAKE_A, MAKE_B, ADD), [0, 1, 2, 2, 0, 1], [], 720, [])

    def test_one_order_alone(self):
        task = worker(ADD, DOUBLE)
        self.check(task, [0, 1, 0], [(0, 1), (1, 2)], 1, [[1, 0, 2], [0, 2, 1]])
        chain = worker(MAKE_A, put("next", ("make", "b", ()), condition=fact("a")),
                       put("last", ("make", "c", ()), condition=fact("b")))
        self.check(chain, [0, 1, 2], [(0, 1), (1, 2)], 1, [[1, 0, 2], [0, 2, 1]])

    def test_some_orders(self):
        task = worker(MAKE_A, put("next", ("make", "b", ()), condition=fact("a")), ADD)
        self.check(task, [0, 2, 1], [(0, 2)], 3, [[1, 2, 0]])

    def test_a_step_that_occurs_twice(self):
        # Either of the two first steps is enough before the third one; the pair that is tried first is removed.
        task = worker(MAKE_A, LOSE_A, put("use", ("make", "b", ()), condition=fact("a")))
        self.check(task, [0, 0, 2], [(0, 2)], 3, [[2, 0, 1]])
        for steps in ([0, 1, 0, 2], [0, 2, 1, 0], [0, 2, 0, 2], [0, 2, 1, 0, 2]):
            _, pairs, count, witnesses = orderoracle.kept_pairs(task, steps, START)
            self.check(task, steps, pairs, count, witnesses)

    def test_implied_pairs_stay(self):
        # All three pairs are kept; the pair (0, 2) is implied by the others.
        task = worker(ADD, DOUBLE)
        self.assertEqual(orderoracle.kept_pairs(task, [0, 1, 0], START)[0], [(0, 1), (0, 2), (1, 2)])
        self.check(task, [0, 1, 0, 1], [(0, 1), (1, 2), (2, 3)], 1,
                   [[1, 0, 2, 3], [0, 2, 1, 3], [0, 1, 3, 2]])

    def test_drawn_steps(self):
        for seed in range(120):
            source = random.Random(seed)
            task, state, steps = drawn_case(source, 5)
            kept, direct, count, witnesses = orderoracle.kept_pairs(task, steps, state)
            self.assertEqual(kept_pairs(task, steps, state), (direct, count), seed)
            self.assertEqual(pair_witnesses(task, steps, state), witnesses, seed)
            alike = [list(order) for order in permutations(range(len(steps)))
                     if goes_alike(task, steps, state, list(order))]
            orders = [list(order) for order in permutations(range(len(steps))) if orderoracle.keeps(order, direct)]
            self.assertEqual(len(orders), count)
            # In every order that keeps the direct pairs, the steps go alike; no direct pair can be left out.
            self.assertTrue(all(order in alike for order in orders), seed)
            for pair, witness in zip(direct, witnesses):
                self.assertTrue(orderoracle.keeps(witness, [other for other in kept if other != pair]), seed)
                self.assertFalse(orderoracle.keeps(witness, [pair]), seed)
                self.assertNotIn(witness, alike, seed)

    def test_six_drawn_steps(self):
        for seed in range(12):
            source = random.Random(seed)
            task, state, steps = drawn_case(source, 6)
            while len(steps) < 6:
                task, state, steps = drawn_case(source, 6)
            _, direct, count, witnesses = orderoracle.kept_pairs(task, steps, state)
            self.assertEqual(kept_pairs(task, steps, state), (direct, count), seed)
            self.assertEqual(pair_witnesses(task, steps, state), witnesses, seed)

    def test_returned_lists_are_new(self):
        task = worker(ADD, DOUBLE)
        pairs, _ = kept_pairs(task, [0, 1], START)
        pairs.clear()
        witnesses = pair_witnesses(task, [0, 1], START)
        witnesses[0].clear()
        witnesses.append(0)
        self.check(task, [0, 1], [(0, 1)], 1, [[1, 0]])


class ErrorsTest(FailingCase):
    """Point 75."""

    functions = (lambda task, steps, state: goes_alike(task, steps, state, None), kept_pairs, pair_witnesses)

    def test_wrong_steps(self):
        task = worker(MAKE_A, MAKE_B)
        for steps in (None, (0, 1), "0", 0, {}, [2], [-1], [0, 2], [True], [0, False], ["0"], [None], [(0,)], [0.0],
                      [0] * 7 + [2], [0] * 200 + [None]):
            for state in (START, None):
                for caught in self.fails(BadValue, task, steps, state):
                    self.assertEqual(caught.name, "steps")

    def test_too_many_steps(self):
        task = worker(MAKE_A, put("never", condition=("false",)))
        for steps in ([0] * 7, [1] * 7, [0] * 101):
            for state in (START, None):
                for caught in self.fails(TooLarge, task, steps, state):
                    self.assertEqual(caught.what, "steps")
        self.assertEqual(kept_pairs(task, [0] * 6, START), ([], 720))
        self.assertEqual(pair_witnesses(task, [0] * 6, START), [])
        self.assertTrue(goes_alike(task, [0] * 6, START, [5, 4, 3, 2, 1, 0]))

    def test_wrong_states(self):
        task = worker(MAKE_A, put("never", condition=("false",)))
        for state in (None, 0, (), ((True,), (0,)), ((False,) * 3, (10,)), [(False,) * 3, (0,)], ((False,) * 3, (True,))):
            for steps in ([], [0], [1]):
                for caught in self.fails(BadValue, task, steps, state):
                    self.assertEqual(caught.name, "state")

    def test_steps_that_are_not_possible(self):
        task = worker(MAKE_A, put("never", condition=fact("c")), put("up", ("add", "n", (), whole(6))))
        for steps, position, reason in (([1], 0, ("condition",)), ([0, 1], 1, ("condition",)),
                                        ([2, 2, 1], 1, ("range", 0)), ([2, 0, 2, 2], 2, ("range", 0))):
            for caught in self.fails(NotPossible, task, steps, START):
                self.assertEqual((caught.position, caught.reason), (position, reason))


if __name__ == "__main__":
    unittest.main()

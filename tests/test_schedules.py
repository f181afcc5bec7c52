"""Points 83 to 86 and 88, and sureplan/schedules.py."""

import random
import unittest
from itertools import product

import orderoracle
import scheduleoracle
from randoms import Draw, Lively
from samples import ONE, TRUE, FailingCase, action, fact, number, whole
from sureplan.errors import BadValue, NotPossible, TooLarge
from sureplan.orders import goes_alike
from sureplan.schedules import disturbing_pairs, is_schedule, schedule, uses
from sureplan.tasks import Task
from test_orders import drawn_steps

N = number("n")


def crews():
    """The example of point 88."""
    one = ("one", (), ("true",), (("make", "a", ()),), ("int", 1), ("int", 2), (("crew", (), 1),))
    two = ("two", (), ("true",), (("make", "b", ()),), ("int", 1), ("int", 3), (("crew", (), 2),))
    three = ("three", (), ("true",), (("make", "c", ()),), ("int", 1), ("int", 1), (("crew", (), 1),))
    return Task(facts=(("a", ()), ("b", ()), ("c", ())), resources=(("crew", (), 2),), actions=(one, two, three))


def shop(capacities, *rows):
    """A task whose steps each make a fact of their own: rows of a time and an amount of each resource, 0 for none."""
    facts = tuple((f"done{k}", ()) for k in range(len(rows)))
    resources = tuple((f"res{k}", (), capacity) for k, capacity in enumerate(capacities))
    actions = []
    for k, row in enumerate(rows):
        needs = tuple((f"res{at}", (), amount) for at, amount in enumerate(row[1:]) if amount)
        actions.append(action(f"act{k}", (), TRUE, (("make", f"done{k}", ()),), ONE, whole(row[0]), needs))
    return Task(facts=facts, resources=resources, actions=tuple(actions))


def planned(task, steps=None):
    steps = list(range(len(task.all_steps()))) if steps is None else steps
    return schedule(task, steps, task.start_state())


def worker(*actions, **parts):
    """Facts a, b, c and d and a number n from 0 to 9, and some actions without parameters."""
    return Task(facts=(("a", ()), ("b", ()), ("c", ()), ("d", ())), numbers=(("n", (), 0, 9),), actions=actions, **parts)


def put(name, *effects, condition=TRUE, cost=ONE, time=ONE):
    return action(name, condition=condition, effects=effects, cost=cost, time=time)


class Timed:
    """A drawer whose actions take longer and use resources; `kind` is another drawer."""

    def __init__(self, source, kind):
        self.source = source
        self.kind = kind
        self.state = kind.state

    def task(self, actions):
        plain = self.kind.task(actions)
        capacities = tuple((f"res{k}", (), self.source.randint(1, 4)) for k in range(self.source.randint(0, 2)))
        timed = []
        for drawn in plain.actions:
            needs = tuple((name, (), self.source.randint(1, top + (self.source.random() < 0.03)))
                          for name, _, top in capacities for _ in range(self.source.choice((0, 1, 1, 1, 2)))
                          if top > 1 or self.source.random() < 0.5)
            time = drawn[5] if self.source.random() < 0.3 else whole(self.source.randint(1, 3))
            timed.append(drawn[:5] + (time, needs))
        return Task(kinds=plain.kinds, objects=plain.objects, facts=plain.facts, numbers=plain.numbers,
                    resources=capacities, actions=tuple(timed), start=plain.start, goal=plain.goal)


def drawn_case(source, most, longest):
    """A task with resources, a state and at least one step that is possible; together they take up to so long."""
    while True:
        if source.random() < 0.3:
            draw = Timed(source, Draw(source))
        else:
            draw = Timed(source, Lively(source, source.randint(2, 6), source.randint(0, 2)))
        task = draw.task(source.randint(2, 5))
        state = draw.state(task)
        steps = drawn_steps(source, task, state, most)
        if steps and sum(scheduleoracle.times(task, steps, state)) <= longest:
            return task, state, steps


class UsesTest(unittest.TestCase):
    """Point 83."""

    def test_amounts_are_added(self):
        needs = (("dock", ("?p",), 2), ("crew", (), 1), ("dock", ("home",), 3), ("crew", (), 4))
        task = Task(kinds=(("Place", "Thing"),), objects=(("home", "Place"), ("away", "Place")),
                    resources=(("crew", (), 2), ("dock", ("Place",), 9)),
                    actions=(action("act", (("?p", "Place"),), uses=needs), action("idle")))
        self.assertEqual(uses(task, 0), [(0, 5), (1, 5)])
        self.assertEqual(uses(task, 1), [(0, 5), (1, 3), (2, 2)])
        self.assertEqual(uses(task, 2), [])
        for step in range(3):
            self.assertEqual(uses(task, step), scheduleoracle.uses(task, step))

    def test_wrong_steps(self):
        for step in (None, -1, 3, True, "0", (0,), [0], 0.0):
            with self.assertRaises(BadValue) as caught:
                uses(crews(), step)
            self.assertEqual(caught.exception.name, "step")

    def test_a_returned_list_is_new(self):
        task = crews()
        uses(task, 0).clear()
        self.assertEqual(uses(task, 0), [(0, 1)])


class DisturbingTest(unittest.TestCase):
    """Point 84."""

    def check(self, task, steps, pairs, state=None):
        state = task.start_state() if state is None else state
        self.assertEqual(disturbing_pairs(task, steps, state), pairs)
        self.assertEqual(scheduleoracle.disturbing_pairs(task, steps, state), pairs)

    def test_both_write(self):
        self.check(worker(put("x", ("make", "a", ())), put("y", ("make", "a", ()))), [0, 1], [(0, 1)])
        self.check(worker(put("x", ("make", "a", ())), put("y", ("unmake", "a", ()))), [0, 1], [(0, 1)])
        self.check(worker(put("x", ("set", "n", (), ONE)), put("y", ("set", "n", (), ONE))), [0, 1], [(0, 1)])
        self.check(worker(put("x", ("add", "n", (), whole(0)))), [0, 0], [(0, 1)])

    def test_one_writes_and_the_other_reads(self):
        reader = put("see", ("make", "b", ()), condition=("or", (TRUE, fact("a"))))
        writer = put("do", ("make", "a", ()))
        self.check(worker(reader, writer), [0, 1], [(0, 1)])
        self.check(worker(reader, writer), [1, 0], [(0, 1)])
        self.check(worker(put("pay", ("make", "b", ()), cost=N), put("up", ("set", "n", (), ONE))), [1, 0], [(0, 1)])
        self.check(worker(put("wait", ("make", "b", ()), time=("plus", (ONE, N))), put("up", ("set", "n", (), ONE))),
                   [0, 1], [(0, 1)])

    def test_both_only_read(self):
        self.check(worker(put("x", ("make", "a", ()), condition=("not", fact("c")), cost=N),
                          put("y", ("make", "b", ()), condition=("not", fact("c")), cost=N)), [0, 1], [])

    def test_a_fact_and_a_number_of_the_same_index(self):
        self.check(worker(put("x", ("make", "a", ())), put("y", ("set", "n", (), ONE))), [0, 1], [])

    def test_what_is_written_depends_on_the_state(self):
        # In the own run the second step writes only if the first one has made a.
        task = worker(put("x", ("make", "a", ())), put("y", ("when", fact("a"), (("make", "c", ()),))),
                      put("z", ("make", "c", ())))
        self.check(task, [1, 2], [])
        self.check(task, [0, 1, 2], [(0, 1), (1, 2)])
        self.check(task, [1, 0, 2], [(0, 1)])

    def test_the_same_step_twice(self):
        self.check(worker(put("x", ("make", "a", ()))), [0, 0, 0], [(0, 1), (0, 2), (1, 2)])
        self.check(worker(put("x")), [0, 0, 0], [])

    def test_no_steps(self):
        self.check(worker(), [], [])

    def test_drawn_steps(self):
        for seed in range(80):
            task, state, steps = drawn_case(random.Random(seed), 6, 1000)
            self.check(task, steps, scheduleoracle.disturbing_pairs(task, steps, state), state)

    def test_a_returned_list_is_new(self):
        task = worker(put("x", ("make", "a", ())))
        disturbing_pairs(task, [0, 0], task.start_state()).clear()
        self.check(task, [0, 0], [(0, 1)])


class IsScheduleTest(unittest.TestCase):
    """Point 85."""

    def test_kept_pairs(self):
        task = worker(put("x", ("make", "a", ()), time=whole(2)), put("y", ("make", "b", ()), condition=fact("a")))
        state = task.start_state()
        self.assertTrue(is_schedule(task, [0, 1], state, [0, 2]))
        self.assertTrue(is_schedule(task, [0, 1], state, [3, 9]))
        self.assertFalse(is_schedule(task, [0, 1], state, [0, 1]))
        self.assertFalse(is_schedule(task, [0, 1], state, [1, 0]))
        self.assertFalse(is_schedule(task, [0, 1], state, [3, 0]))

    def test_implied_kept_pairs(self):
        # The first and the last step wait for one another only through the one between them.
        task = worker(put("x", ("set", "n", (), ONE)), put("y", ("set", "n", (), ("times", 2, N))))
        self.assertTrue(is_schedule(task, [0, 1, 0], task.start_state(), [0, 1, 2]))
        self.assertFalse(is_schedule(task, [0, 1, 0], task.start_state(), [2, 1, 0]))

    def test_positions_that_disturb_one_another(self):
        task = worker(put("x", ("make", "a", ()), time=whole(2)), put("y", ("make", "a", ()), time=whole(3)))
        state = task.start_state()
        for starts, expected in (([0, 2], True), ([3, 0], True), ([0, 1], False), ([2, 0], False), ([5, 5], False)):
            self.assertEqual(is_schedule(task, [0, 1], state, starts), expected)

    def test_capacities(self):
        task = shop([5], (3, 2), (3, 3), (3, 1))
        state = task.start_state()
        self.assertTrue(is_schedule(task, [0, 1], state, [0, 0]))
        self.assertFalse(is_schedule(task, [0, 1, 2], state, [0, 0, 0]))
        self.assertFalse(is_schedule(task, [0, 1, 2], state, [0, 0, 2]))
        self.assertFalse(is_schedule(task, [0, 1, 2], state, [2, 1, 0]))
        self.assertTrue(is_schedule(task, [0, 1, 2], state, [0, 0, 3]))
        self.assertTrue(is_schedule(task, [0, 1, 2], state, [3, 1, 0]))
        # The second resource is too small, the first one is not.
        self.assertFalse(is_schedule(shop([5, 1], (1, 1, 1), (1, 1, 1)), [0, 1], ((False, False), ()), [0, 0]))

    def test_a_step_that_uses_too_much_by_itself(self):
        task = shop([5], (3, 6), (3, 5))
        self.assertFalse(is_schedule(task, [0], task.start_state(), [0]))
        self.assertFalse(is_schedule(task, [1, 0], task.start_state(), [0, 9]))
        self.assertTrue(is_schedule(task, [1], task.start_state(), [0]))

    def test_starts_of_a_wrong_number_or_below_0(self):
        task = shop([], (1,), (1,))
        state = task.start_state()
        for starts in ([], [0], [0, 0, 0], [-1, 0], [0, -1], [0, 0, -1]):
            self.assertFalse(is_schedule(task, [0, 1], state, starts), starts)
        self.assertTrue(is_schedule(task, [0, 1], state, [0, 0]))
        self.assertTrue(is_schedule(task, [0, 1], state, [0, 10 ** 30]))
        self.assertTrue(is_schedule(task, [], state, []))
        self.assertFalse(is_schedule(task, [], state, [0]))

    def test_drawn_starts(self):
        found = {True: 0, False: 0}
        for seed in range(150):
            source = random.Random(seed)
            task, state, steps = drawn_case(source, 5, 12)
            facts = scheduleoracle.Facts(task, steps, state)
            first = schedule(task, steps, state)
            for _ in range(10):
                starts = [source.randint(0, sum(facts.times)) for _ in steps]
                if first is not None and source.random() < 0.5:
                    starts = [start + source.choice((0, 0, 0, 1, 2, -1)) for start in first[1]]
                found[facts.is_schedule(starts)] += 1
                self.assertEqual(is_schedule(task, steps, state, starts), facts.is_schedule(starts), seed)
                if facts.is_schedule(starts):
                    # They go alike in the order of their ends.
                    ends = [start + time for start, time in zip(starts, facts.times)]
                    order = sorted(range(len(steps)), key=lambda position: (ends[position], source.random()))
                    self.assertTrue(goes_alike(task, steps, state, order), seed)
        self.assertGreater(min(found.values()), 200)

    def test_the_arguments_stay_as_they_are(self):
        steps, starts = [0, 1], [0, 0]
        is_schedule(shop([], (1,), (1,)), steps, ((False, False), ()), starts)
        self.assertEqual((steps, starts), ([0, 1], [0, 0]))


class ScheduleTest(unittest.TestCase):
    """Point 86."""

    def test_the_example_of_the_document(self):
        self.assertEqual(planned(crews()), (5, [0, 2, 0], [0, 1]))

    def test_no_steps(self):
        self.assertEqual(planned(worker(), []), (0, [], []))
        self.assertEqual(planned(crews(), []), (0, [], []))

    def test_one_step(self):
        self.assertEqual(planned(shop([1], (7, 1))), (7, [0], [0]))
        self.assertIsNone(planned(shop([1], (7, 2))))

    def test_no_schedule(self):
        self.assertIsNone(planned(shop([5, 3], (1, 1, 1), (1, 5, 4))))
        self.assertEqual(planned(shop([5, 3], (1, 1, 1), (1, 5, 3))), (2, [0, 1], [0, 1]))
        # The uses of the same resource are added.
        task = Task(resources=(("crew", (), 3),), actions=(action("act", uses=(("crew", (), 2), ("crew", (), 2))),))
        self.assertIsNone(planned(task))

    def test_exactly_the_capacity_and_one_more(self):
        self.assertEqual(planned(shop([4], (2, 2), (3, 2))), (3, [0, 0], [1]))
        self.assertEqual(planned(shop([3], (2, 2), (3, 2))), (5, [0, 2], [0, 1]))

    def test_the_smaller_start_at_the_first_position(self):
        # All three cannot go at the same time; the first ones begin.
        self.assertEqual(planned(shop([2], (2, 1), (2, 1), (2, 1))), (4, [0, 0, 2], []))
        # Being done soonest counts first: the long step begins, and the first one waits.
        self.assertEqual(planned(shop([2], (1, 1), (2, 1), (3, 1))), (3, [0, 1, 0], [0, 1, 2]))
        self.assertEqual(planned(shop([2], (2, 2), (1, 1), (1, 1))), (3, [0, 2, 2], [0, 1, 2]))

    def test_critical_positions(self):
        self.assertEqual(planned(shop([], (3,), (2,))), (3, [0, 0], [0]))
        self.assertEqual(planned(shop([], (3,), (3,))), (3, [0, 0], [0, 1]))
        # With a crew of two for three steps, one more at a short step does no harm.
        self.assertEqual(planned(shop([2], (3, 1), (1, 1), (1, 1))), (3, [0, 0, 1], [0]))
        self.assertEqual(planned(shop([2], (2, 1), (1, 1), (1, 1))), (2, [0, 0, 1], [0, 1, 2]))

    def test_waiting_for_one_another(self):
        task = worker(put("x", ("make", "a", ()), time=whole(2)), put("y", ("make", "b", ()), condition=fact("a")),
                      put("z", ("make", "c", ()), time=whole(3)), put("w", ("make", "c", ()), time=whole(4)))
        self.assertEqual(planned(task, [0, 1]), (3, [0, 2], [0, 1]))
        self.assertEqual(planned(task, [0, 2, 1]), (3, [0, 0, 2], [0, 1, 2]))
        self.assertEqual(planned(task, [0, 2, 1, 3]), (7, [0, 0, 2, 3], [1, 3]))

    def test_long_times(self):
        task = shop([2], (10 ** 6, 1), (10 ** 6 - 1, 1), (1, 1), (2, 2))
        self.assertEqual(planned(task), (10 ** 6 + 2, [0, 0, 10 ** 6 - 1, 10 ** 6], [0, 1, 2, 3]))
        # The time of a step is the one that it has in the own run, and it may be far beyond what is written.
        long = worker(put("up", ("add", "n", (), whole(9))),
                      put("wait", ("make", "a", ()), time=("plus", (ONE, ("times", 10 ** 6, ("times", 10 ** 6, N))))))
        self.assertEqual(planned(long, [0, 1]), (9 * 10 ** 12 + 2, [0, 1], [0, 1]))
        self.assertEqual(planned(long, [1]), (1, [0], [0]))

    def test_six_steps(self):
        self.assertEqual(planned(shop([1], *[(k + 1, 1) for k in range(6)])),
                         (21, [0, 1, 3, 6, 10, 15], [0, 1, 2, 3, 4, 5]))
        self.assertEqual(planned(shop([], *[(2,)] * 6)), (2, [0] * 6, [0, 1, 2, 3, 4, 5]))

    def test_drawn_steps(self):
        none = 0
        for seed in range(150):
            task, state, steps = drawn_case(random.Random(seed), 4, 9)
            expected = scheduleoracle.Facts(task, steps, state).schedule()
            none += expected is None
            found = schedule(task, steps, state)
            self.assertEqual(found, expected, seed)
            if found is not None:
                self.assertTrue(is_schedule(task, steps, state, found[1]), seed)
        self.assertGreater(none, 1)

    def test_drawn_shops(self):
        for seed in range(60):
            source = random.Random(seed)
            capacities = [source.randint(1, 4) for _ in range(source.randint(1, 2))]
            rows = [(source.randint(1, 3),) + tuple(source.randint(0, top) for top in capacities)
                    for _ in range(source.randint(3, 4))]
            task = shop(capacities, *rows)
            steps = list(range(len(rows)))
            expected = scheduleoracle.Facts(task, steps, task.start_state()).schedule()
            self.assertEqual(planned(task), expected, seed)

    def test_returned_lists_are_new(self):
        task = crews()
        _, starts, critical = planned(task)
        starts.clear()
        critical.clear()
        self.assertEqual(planned(task), (5, [0, 2, 0], [0, 1]))


class ErrorsTest(FailingCase):
    """Point 75."""

    functions = (disturbing_pairs, schedule, lambda task, steps, state: is_schedule(task, steps, state, [-1, -1]))

    def test_wrong_steps(self):
        for steps in (None, (0, 1), "0", 0, {}, [3], [-1], [0, 3], [True], [0, False], ["0"], [None], [0] * 7 + [3]):
            for state in (crews().start_state(), None):
                for caught in self.fails(BadValue, crews(), steps, state):
                    self.assertEqual(caught.name, "steps")

    def test_too_many_steps(self):
        for steps in ([0] * 7, [0, 1, 2] * 30):
            for state in (crews().start_state(), None):
                for caught in self.fails(TooLarge, crews(), steps, state):
                    self.assertEqual(caught.what, "steps")
        self.assertEqual(planned(crews(), [0] * 6), (12, [0, 2, 4, 6, 8, 10], [0, 1, 2, 3, 4, 5]))

    def test_wrong_states(self):
        task = worker(put("never", condition=("false",)))
        for state in (None, 0, (), ((False,) * 3, (0,)), ((False,) * 4, (10,)), [(False,) * 4, (0,)]):
            for steps in ([], [0]):
                for caught in self.fails(BadValue, task, steps, state):
                    self.assertEqual(caught.name, "state")

    def test_steps_that_are_not_possible(self):
        task = worker(put("ok"), put("never", condition=fact("c")), put("idle", time=N), put("up", ("set", "n", (), ONE)))
        for steps, position, reason in (([1], 0, ("condition",)), ([0, 1], 1, ("condition",)),
                                        ([2], 0, ("time",)), ([0, 2, 1], 1, ("time",))):
            for caught in self.fails(NotPossible, task, steps, task.start_state()):
                self.assertEqual((caught.position, caught.reason), (position, reason))
        # With n at 1 the step takes 1.
        self.assertEqual(planned(task, [3, 2]), (2, [0, 1], [0, 1]))


class AllSchedulesTest(unittest.TestCase):
    """Point 85: there is no schedule exactly if a step uses too much, and orders of ends go alike."""

    def test_all_starts_of_small_tasks(self):
        for seed in range(25):
            task, state, steps = drawn_case(random.Random(seed), 3, 6)
            facts = scheduleoracle.Facts(task, steps, state)
            alone = all(facts.enough([position]) for position in range(len(steps)))
            some = False
            for starts in product(range(sum(facts.times)), repeat=len(steps)):
                if is_schedule(task, steps, state, list(starts)):
                    some = True
                    ends = [start + time for start, time in zip(starts, facts.times)]
                    for order in (sorted(range(len(steps)), key=lambda position: (ends[position], position)),
                                  sorted(range(len(steps)), key=lambda position: (ends[position], -position))):
                        self.assertTrue(orderoracle.goes_alike(task, steps, state, order), seed)
            self.assertEqual((some, schedule(task, steps, state) is not None), (alone, alone), seed)


if __name__ == "__main__":
    unittest.main()

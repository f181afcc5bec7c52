"""Points 89 to 92, the example of their chapter, and sureplan/watching.py."""

import random
import unittest

import restoracle
from randoms import Draw, Lively
from samples import FALSE, ONE, TRUE, action, fact, number, whole
from sureplan.errors import BadValue, TooLarge
from sureplan.tasks import Task
from sureplan.watching import after_seen, threats, works

N, M = number("n"), number("m")


def coins():
    """The example of the chapter."""
    go = ("go", (), ("fact", "home", ()), (("unmake", "home", ()), ("make", "shop", ()), ("take", "coins", (), ("int", 1))),
          ("int", 2), ("int", 1), ())
    goal = ("and", (("fact", "shop", ()), ("ge", ("number", "coins", ()), ("int", 2))))
    return Task(facts=(("home", ()), ("shop", ())), numbers=(("coins", (), 0, 9),), actions=(go,),
                start=((("home", ()),), (("coins", (), 3),)), goal=goal)


def worker(*actions, **parts):
    """Facts a, b and c, a number n from 0 to 9 and a number m from -3 to 3, and some actions without parameters."""
    return Task(facts=(("a", ()), ("b", ()), ("c", ())), numbers=(("n", (), 0, 9), ("m", (), -3, 3)), actions=actions,
                **parts)


def put(name, *effects, condition=TRUE, cost=ONE, time=ONE):
    return action(name, condition=condition, effects=effects, cost=cost, time=time)


def state_of(n=0, m=0, *names):
    return (tuple(name in names for name in "abc"), (n, m))


def drawn_rest(source, most=4):
    """A task, a rest, and a state, in which the rest often works."""
    if source.random() < 0.4:
        draw = Draw(source)
    else:
        draw = Lively(source, source.randint(1, 4), source.randint(0, 3))
    task = draw.task(source.randint(1, 4))
    steps = [source.randrange(len(task.all_steps())) for _ in range(source.randint(0, most))]
    state = draw.state(task)
    for _ in range(30):
        if restoracle.fault(task, steps, state) is None:
            break
        state = draw.state(task)
    return task, steps, state


class WorksTest(unittest.TestCase):
    """Point 89."""

    def test_the_example_of_the_document(self):
        trip = coins()
        self.assertIsNone(works(trip, [0], trip.start_state()))
        self.assertEqual(works(trip, [0], ((False, True), (3,))), ("step", 0, ("condition",)))
        self.assertEqual(works(trip, [0], ((True, False), (2,))), ("goal",))

    def test_every_fault(self):
        task = worker(put("x", ("make", "a", ())), put("y", condition=fact("a")),
                      put("both", ("make", "b", ()), ("unmake", "b", ())),
                      put("ways", ("set", "n", (), ONE), ("add", "n", (), ONE)), put("up", ("add", "n", (), whole(5))),
                      put("gain", cost=("minus", M, whole(1))), put("idle", time=M), goal=fact("a"))
        state = state_of()
        for steps, expected in (([1], ("step", 0, ("condition",))), ([0, 2], ("step", 1, ("both", 1))),
                                ([0, 1, 3], ("step", 2, ("two ways", 0))), ([4, 4], ("step", 1, ("range", 0))),
                                ([5], ("step", 0, ("cost",))), ([6], ("step", 0, ("time",))), ([4], ("goal",)),
                                ([], ("goal",)), ([0], None), ([0, 1, 1], None), ([1, 2], ("step", 0, ("condition",)))):
            self.assertEqual(works(task, steps, state), expected)
        self.assertIsNone(works(task, [0, 5, 6], state_of(0, 1)))

    def test_the_goal_counts_at_the_end_alone(self):
        task = worker(put("x", ("make", "a", ())), put("y", ("unmake", "a", ())), goal=fact("a"))
        self.assertEqual(works(task, [0, 1], state_of()), ("goal",))
        self.assertIsNone(works(task, [1, 0], state_of()))
        self.assertIsNone(works(task, [], state_of(0, 0, "a")))

    def test_twenty_steps(self):
        task = worker(put("x", ("make", "a", ())), goal=fact("a"))
        self.assertIsNone(works(task, [0] * 20, state_of()))
        for steps in ([0] * 21, [0] * 101):
            for function in (works, threats):
                for state in (state_of(), None):
                    with self.assertRaises(TooLarge) as caught:
                        function(task, steps, state)
                    self.assertEqual(caught.exception.what, "steps")

    def test_wrong_arguments(self):
        task = worker(put("x", ("make", "a", ())))
        for function in (works, threats):
            for steps in (None, (0,), "0", 0, {}, [1], [-1], [True], [0, False], [None], ["0"], [0] * 21 + [1]):
                for state in (state_of(), None):
                    with self.assertRaises(BadValue) as caught:
                        function(task, steps, state)
                    self.assertEqual(caught.exception.name, "steps")
            for state in (None, 0, (), state_of(10), state_of(-1), state_of(0, 4), [(False,) * 3, (0, 0)],
                          ((False,) * 3, (0, False)), ((0, 0, 0), (0, 0)), ((False,) * 3, (0,))):
                for steps in ([], [0], [0] * 20):
                    with self.assertRaises(BadValue) as caught:
                        function(task, steps, state)
                    self.assertEqual(caught.exception.name, "state")

    def test_drawn_rests(self):
        for seed in range(200):
            source = random.Random(seed)
            task, steps, _ = drawn_rest(source)
            for _ in range(3):
                state = Draw(source).state(task)
                self.assertEqual(works(task, steps, state), restoracle.fault(task, steps, state), seed)

    def test_the_arguments_stay_as_they_are(self):
        steps = [0]
        works(coins(), steps, coins().start_state())
        threats(coins(), steps, coins().start_state())
        self.assertEqual(steps, [0])


class SeenTest(unittest.TestCase):
    """Point 90."""

    def test_what_was_seen(self):
        task = worker()
        state = state_of(4, 1, "b")
        self.assertEqual(after_seen(task, (), state), state)
        self.assertEqual(after_seen(task, (("fact", 0, True),), state), state_of(4, 1, "a", "b"))
        self.assertEqual(after_seen(task, (("fact", 1, False),), state), state_of(4, 1))
        self.assertEqual(after_seen(task, (("fact", 1, True),), state), state)
        self.assertEqual(after_seen(task, (("number", 0, 9), ("fact", 2, True), ("number", 1, -3)), state),
                         state_of(9, -3, "b", "c"))
        # A fact and a number of the same index are different things.
        self.assertEqual(after_seen(task, (("number", 1, 0), ("fact", 1, False)), state), state_of(4, 0))

    def test_wrong_forms(self):
        task = worker()
        for entry in (None, (), "fact", ["fact", 0, True], ("fact",), ("fact", 0), ("fact", 0, True, 1), ("facts", 0, True),
                      ("Fact", 0, True), (0, 0, True), (None, 0, 0), ("facts", 0, 5), ("numbers", 0, 5), ("Number", 0, 5), ("", 0, 5),
                      (["fact"], 0, True), ({}, 0, True), (("fact",), 0, True),
                      ("fact", 0, 1), ("fact", 0, 0), ("fact", 0, None), ("fact", 0, "True"), ("fact", True, True),
                      ("fact", False, True), ("fact", -1, True), ("fact", 3, True), ("fact", "0", True), ("fact", None, True),
                      ("fact", 0.0, True), ("fact", [0], True), ("number", 0, True), ("number", 0, False),
                      ("number", 0, None), ("number", 0, "1"), ("number", 0, 1.0), ("number", False, 1), ("number", True, 1),
                      ("number", -1, 1), ("number", 2, 1), ("number", 0, -1), ("number", 0, 10), ("number", 1, -4),
                      ("number", 1, 4), ("number", [0], 1), ("number", 0, [1])):
            for seen in ((entry,), (("fact", 1, True), entry), (entry, ("number", 1, 0))):
                with self.assertRaises(BadValue) as caught:
                    after_seen(task, seen, state_of())
                self.assertEqual(caught.exception.name, "seen", entry)

    def test_other_kinds_of_values(self):
        for seen in (None, [], [("fact", 0, True)], "", 0, {}, True, ("fact", 0, True)):
            for state in (state_of(), None):
                with self.assertRaises(BadValue) as caught:
                    after_seen(worker(), seen, state)
                self.assertEqual(caught.exception.name, "seen")

    def test_named_twice(self):
        for seen in ((("fact", 0, True), ("fact", 0, True)), (("fact", 0, True), ("fact", 1, True), ("fact", 0, False)),
                     (("number", 1, 0), ("number", 1, 0)), (("number", 1, 0), ("fact", 1, True), ("number", 1, 2))):
            with self.assertRaises(BadValue) as caught:
                after_seen(worker(), seen, state_of())
            self.assertEqual(caught.exception.name, "seen")

    def test_wrong_states(self):
        for state in (None, 0, (), state_of(10), [(False,) * 3, (0, 0)]):
            with self.assertRaises(BadValue) as caught:
                after_seen(worker(), (("number", 0, 1),), state)
            self.assertEqual(caught.exception.name, "state")
            with self.assertRaises(BadValue) as caught:
                after_seen(worker(), (("number", 0, 10),), state)
            self.assertEqual(caught.exception.name, "seen")

    def test_drawn_entries(self):
        for seed in range(60):
            source = random.Random(seed)
            task, _, state = drawn_rest(source)
            other = Draw(source).state(task)
            entries = [("fact", index, answer) for index, answer in enumerate(other[0])]
            entries += [("number", index, value) for index, value in enumerate(other[1])]
            source.shuffle(entries)
            seen = tuple(entries[:source.randint(0, len(entries))])
            self.assertEqual(after_seen(task, seen, state), restoracle.after_seen(seen, state))
            self.assertEqual(after_seen(task, tuple(entries), state), other)


class ThreatsTest(unittest.TestCase):
    """Points 91 and 92."""

    def check(self, task, steps, state, expected):
        self.assertEqual(threats(task, steps, state), expected)
        self.assertEqual(restoracle.threats(task, steps, state), expected)

    def test_the_example_of_the_document(self):
        trip = coins()
        self.check(trip, [0], trip.start_state(), ([(0, ("step", 0, ("condition",)))], [(0, 3, 9)]))

    def test_a_rest_that_does_not_work(self):
        self.check(coins(), [0], ((True, False), (2,)), None)
        self.check(coins(), [0], ((False, False), (2,)), None)
        self.check(worker(goal=FALSE), [], state_of(), None)

    def test_facts(self):
        task = worker(put("x", ("make", "c", ()), condition=("and", (fact("a"), ("not", fact("b"))))), goal=fact("c"))
        whole_spans = [(0, 0, 9), (1, -3, 3)]
        condition = ("step", 0, ("condition",))
        self.check(task, [0], state_of(0, 0, "a"), ([(0, condition), (1, condition)], whole_spans))
        # The fact c is made anyway, and where the goal holds already it is a threat.
        self.check(task, [], state_of(0, 0, "c"), ([(2, ("goal",))], whole_spans))
        both = worker(put("x"), goal=("or", (fact("a"), fact("b"))))
        self.check(both, [0], state_of(0, 0, "a"), ([(0, ("goal",))], whole_spans))
        self.check(both, [0], state_of(0, 0, "a", "b"), ([], whole_spans))
        self.check(worker(), [], state_of(), ([], whole_spans))

    def test_spans(self):
        task = worker(put("x", ("add", "n", (), whole(2))), put("y", condition=("ge", N, whole(3))))
        self.check(task, [0], state_of(4), ([], [(0, 0, 7), (1, -3, 3)]))
        self.check(task, [0, 0], state_of(4), ([], [(0, 0, 5), (1, -3, 3)]))
        self.check(task, [0, 1], state_of(7), ([], [(0, 1, 7), (1, -3, 3)]))
        self.check(task, [1, 0], state_of(3), ([], [(0, 3, 7), (1, -3, 3)]))
        self.check(task, [1], state_of(9), ([], [(0, 3, 9), (1, -3, 3)]))
        exact = worker(goal=("eq", N, whole(5)))
        self.check(exact, [], state_of(5, 3), ([], [(0, 5, 5), (1, -3, 3)]))
        together = worker(goal=("eq", N, ("plus", (M, ONE))))
        self.check(together, [], state_of(3, 2), ([], [(0, 3, 3), (1, 2, 2)]))

    def test_values_beyond_a_gap(self):
        goal = ("not", ("or", (("eq", N, whole(2)), ("eq", N, whole(6)))))
        for n, span in ((0, (0, 0, 1)), (1, (0, 0, 1)), (3, (0, 3, 5)), (5, (0, 3, 5)), (7, (0, 7, 9)), (9, (0, 7, 9))):
            self.check(worker(goal=goal), [], state_of(n), ([], [span, (1, -3, 3)]))

    def test_a_number_that_is_set(self):
        # The value that it has before does not matter, but the one that is added to does.
        task = worker(put("x", ("set", "n", (), whole(4))), put("y", ("add", "n", (), whole(0))),
                      put("z", ("take", "m", (), whole(1))), goal=("eq", N, whole(4)))
        self.check(task, [0], state_of(9), ([], [(0, 0, 9), (1, -3, 3)]))
        self.check(task, [0, 1], state_of(9), ([], [(0, 0, 9), (1, -3, 3)]))
        self.check(task, [2, 0, 2], state_of(9, 3), ([], [(0, 0, 9), (1, -1, 3)]))

    def test_drawn_rests(self):
        working = 0
        for seed in range(250):
            task, steps, state = drawn_rest(random.Random(seed))
            expected = restoracle.threats(task, steps, state)
            working += expected is not None
            self.assertEqual(threats(task, steps, state), expected, seed)
        self.assertGreater(working, 60)

    def test_a_wide_range(self):
        task = Task(numbers=(("n", (), -100, 100),), goal=("not", ("eq", N, whole(-50))))
        self.check(task, [], ((), (100,)), ([], [(0, -49, 100)]))
        self.check(task, [], ((), (-100,)), ([], [(0, -100, -51)]))

    def test_returned_lists_are_new(self):
        trip = coins()
        facts, spans = threats(trip, [0], trip.start_state())
        facts.clear()
        spans.clear()
        self.check(trip, [0], trip.start_state(), ([(0, ("step", 0, ("condition",)))], [(0, 3, 9)]))


if __name__ == "__main__":
    unittest.main()

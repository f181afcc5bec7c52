"""Points 43 to 45, and sureplan/stepping.py."""

import random
import unittest

import boxoracle
import oracle
from boxoracle import states_in
from randoms import Draw
from samples import FALSE, ONE, TRUE, action, fact, number, whole
from sureplan.boxes import box_of_state, common_box, in_box, lies_in
from sureplan.meaning import try_step
from sureplan.stepping import step_from
from sureplan.tasks import Task

A, B, W = fact("a"), fact("b"), fact("w")
M, N = number("m"), number("n")
OPEN = ((None, None, None), ((2, 4), (5, 5)))


def step(effects=(), box=OPEN, **items):
    """What the only step of a task does in a box: its facts are a, b, w, its numbers m and n from 0 to 9."""
    task = Task(facts=(("a", ()), ("b", ()), ("w", ())), numbers=(("m", (), 0, 9), ("n", (), 0, 9)),
                actions=(action(effects=tuple(effects), **items),))
    return step_from(task, 0, box)


def facts_after(effects, *facts):
    answer = step(effects, (facts, OPEN[1]))
    return answer and answer[1][0]


def spans_after(effects, box=OPEN, **items):
    answer = step(effects, box, **items)
    return answer and answer[1][1]


def maybe(*effects):
    """Effects that are uncertain where w is open."""
    return ("when", W, effects)


class ConditionTest(unittest.TestCase):
    def test_the_remainder(self):
        self.assertEqual(step(condition=A), (1, ((True, None, None), OPEN[1])))
        self.assertEqual(step(condition=("ge", M, whole(3))), (1, ((None,) * 3, ((3, 4), (5, 5)))))
        self.assertIsNone(step(condition=FALSE))
        self.assertIsNone(step(condition=("gt", M, whole(4))))
        self.assertIsNone(step(condition=("and", (("or", (A, B)), ("not", A), ("not", B)))))

    def test_effects_are_gathered_in_the_remainder(self):
        effects = [("when", A, (("set", "n", (), whole(1)),)), ("when", ("not", A), (("set", "n", (), whole(2)),))]
        self.assertEqual(spans_after(effects, condition=A), ((2, 4), (1, 1)))
        self.assertEqual(spans_after([("set", "n", (), M)], condition=("ge", M, whole(4))), ((4, 4), (4, 4)))
        self.assertEqual(spans_after([("set", "m", (), ("plus", (M, N)))], condition=("lt", M, whole(4))),
                         ((7, 8), (5, 5)))


class FactsTest(unittest.TestCase):
    def test_certain(self):
        for entry in (None, True, False):
            self.assertEqual(facts_after([("make", "a", ())], entry, None, None), (True, None, None))
            self.assertEqual(facts_after([("unmake", "a", ())], entry, None, None), (False, None, None))
            self.assertEqual(facts_after([], entry, None, None), (entry, None, None))
            self.assertIsNone(facts_after([("make", "a", ()), ("unmake", "a", ())], entry, None, None))
            self.assertIsNone(facts_after([("unmake", "a", ()), ("make", "a", ())], entry, None, None))

    def test_uncertain(self):
        make, unmake = ("make", "a", ()), ("unmake", "a", ())
        for effects, expected in (([maybe(make)], {None: None, True: True, False: None}),
                                  ([maybe(unmake)], {None: None, True: None, False: False}),
                                  ([maybe(make, unmake)], {None: None, True: None, False: None}),
                                  ([maybe(make), unmake], {None: False, True: False, False: False}),
                                  ([maybe(unmake), make], {None: True, True: True, False: True})):
            for entry, then in expected.items():
                self.assertEqual(facts_after(effects, entry, None, None), (then, None, None), (effects, entry))

    def test_when(self):
        inner = ("when", W, (("make", "a", ()),))
        self.assertEqual(facts_after([inner], False, None, True), (True, None, True))
        self.assertEqual(facts_after([inner], False, None, None), (None, None, None))
        self.assertEqual(facts_after([inner], False, None, False), (False, None, False))

    def test_when_in_when(self):
        inner = [("when", W, (("when", B, (("make", "a", ()),)),))]
        for w, b, then in ((True, True, True), (True, None, None), (None, True, None), (None, None, None),
                           (False, True, False), (False, None, False), (None, False, False), (True, False, False)):
            self.assertEqual(facts_after(inner, False, b, w), (then, b, w))

    def test_when_in_each(self):
        task = Task(kinds=(("Empty", "Thing"),), objects=(("x", "Thing"), ("y", "Thing"), ("z", "Thing")),
                    facts=(("on", ("Thing",)), ("lit", ("Thing",)), ("done", ())),
                    actions=(action(effects=(
                        ("each", (("?o", "Thing"),), (("when", fact("on", "?o"), (("make", "lit", ("?o",)),)),)),
                        ("each", (("?o", "Empty"),), (("make", "done", ()),)))),))
        box = ((True, None, False) + (False,) * 4, ())
        self.assertEqual(step_from(task, 0, box), (1, ((True, None, False, True, None, False, False), ())))

    def test_contradictions_are_judged_by_certain_effects_alone(self):
        self.assertEqual(facts_after([maybe(("make", "a", ())), maybe(("unmake", "a", ()))], None, None, None),
                         (None, None, None))
        self.assertIsNone(facts_after([maybe(("make", "a", ())), ("unmake", "a", ())], None, None, True))


class NumbersTest(unittest.TestCase):
    def test_certain_settings(self):
        self.assertEqual(spans_after([("set", "n", (), M)]), ((2, 4), (2, 4)))
        self.assertEqual(spans_after([("set", "n", (), M), ("set", "n", (), ("minus", whole(7), M))]), ((2, 4), (3, 4)))
        self.assertEqual(spans_after([("set", "n", (), M), ("set", "n", (), whole(4))]), ((2, 4), (4, 4)))
        self.assertIsNone(spans_after([("set", "n", (), M), ("set", "n", (), N)]))

    def test_uncertain_effects_are_ignored_beside_a_certain_setting(self):
        for more in (maybe(("set", "m", (), whole(9))), maybe(("add", "m", (), whole(9))),
                     maybe(("take", "m", (), whole(9)))):
            self.assertEqual(spans_after([("set", "m", (), ONE), more]), ((1, 1), (5, 5)))
            self.assertEqual(spans_after([more, ("set", "m", (), ONE)]), ((1, 1), (5, 5)))

    def test_certain_settings_and_additions(self):
        for word in ("add", "take"):
            self.assertIsNone(spans_after([("set", "m", (), ONE), (word, "m", (), whole(0))]))
            self.assertIsNone(spans_after([(word, "m", (), whole(0)), ("set", "m", (), ONE)]))
            self.assertEqual(spans_after([("set", "m", (), ONE), (word, "n", (), whole(0))]), ((1, 1), (5, 5)))

    def test_certain_additions(self):
        self.assertEqual(spans_after([("add", "m", (), whole(3))]), ((5, 7), (5, 5)))
        self.assertEqual(spans_after([("add", "n", (), M), ("add", "n", (), whole(-4))]), ((2, 4), (3, 5)))
        self.assertEqual(spans_after([("take", "n", (), M)]), ((2, 4), (1, 3)))
        self.assertEqual(spans_after([("take", "n", (), M), ("take", "n", (), ONE), ("add", "n", (), M)]),
                         ((2, 4), (2, 6)))

    def test_uncertain_additions(self):
        self.assertEqual(spans_after([maybe(("add", "n", (), whole(2)))]), ((2, 4), (5, 7)))
        self.assertEqual(spans_after([maybe(("take", "n", (), whole(2)))]), ((2, 4), (3, 5)))
        self.assertEqual(spans_after([maybe(("add", "n", (), ("minus", M, whole(3))))]), ((2, 4), (4, 6)))
        self.assertEqual(spans_after([maybe(("add", "n", (), ONE), ("add", "n", (), ONE), ("take", "n", (), ONE))]),
                         ((2, 4), (4, 7)))
        self.assertEqual(spans_after([maybe(("add", "n", (), ONE)), ("add", "n", (), whole(2))]), ((2, 4), (7, 8)))

    def test_uncertain_settings(self):
        low, high = ("set", "m", (), whole(1)), ("set", "m", (), whole(7))
        self.assertEqual(spans_after([maybe(high)]), ((2, 7), (5, 5)))
        self.assertEqual(spans_after([maybe(low)]), ((1, 4), (5, 5)))
        self.assertEqual(spans_after([maybe(low, high)]), ((1, 7), (5, 5)))
        self.assertEqual(spans_after([maybe(("set", "n", (), M))]), ((2, 4), (2, 5)))
        self.assertEqual(spans_after([maybe(("set", "m", (), whole(3)))]), ((2, 4), (5, 5)))

    def test_uncertain_settings_beside_additions(self):
        # beside a certain addition, an uncertain setting is not possible together with it
        self.assertEqual(spans_after([maybe(("set", "m", (), whole(9))), ("add", "m", (), ONE)]), ((3, 5), (5, 5)))
        self.assertEqual(spans_after([maybe(("set", "m", (), whole(9)), ("take", "m", (), ONE))]), ((1, 9), (5, 5)))
        self.assertEqual(spans_after([maybe(("set", "m", (), whole(0)), ("add", "m", (), ONE))]), ((0, 5), (5, 5)))

    def test_the_range(self):
        self.assertEqual(spans_after([("add", "m", (), whole(7))]), ((9, 9), (5, 5)))
        self.assertIsNone(spans_after([("add", "m", (), whole(8))]))
        self.assertEqual(spans_after([("take", "m", (), whole(4))]), ((0, 0), (5, 5)))
        self.assertIsNone(spans_after([("take", "m", (), whole(5))]))
        self.assertIsNone(spans_after([("set", "m", (), whole(10))]))
        self.assertEqual(spans_after([("set", "m", (), ("times", 3, M))]), ((6, 9), (5, 5)))
        self.assertEqual(spans_after([maybe(("set", "m", (), whole(50)))]), ((2, 9), (5, 5)))
        self.assertEqual(spans_after([maybe(("add", "n", (), whole(-50)))]), ((2, 4), (0, 5)))

    def test_a_box_beyond_the_range(self):
        box = ((None,) * 3, ((-3, 50), (5, 5)))
        self.assertEqual(spans_after([], box), ((0, 9), (5, 5)))
        self.assertIsNone(spans_after([], ((None,) * 3, ((10, 50), (5, 5)))))


class CostAndTimeTest(unittest.TestCase):
    def test_least_cost(self):
        self.assertEqual(step(cost=M)[0], 2)
        self.assertEqual(step(cost=("minus", M, whole(3)))[0], 0)
        self.assertEqual(step(cost=("minus", M, whole(4)))[0], 0)
        self.assertIsNone(step(cost=("minus", M, whole(5))))
        self.assertEqual(step(cost=("times", -1, ("minus", M, whole(9))))[0], 5)
        self.assertEqual(step(cost=M, condition=("ge", M, whole(3)))[0], 3)
        self.assertIsNone(step(cost=("minus", M, whole(4)), condition=("lt", M, whole(4))))

    def test_costs_are_of_the_state_before(self):
        self.assertEqual(step([("set", "m", (), whole(9))], cost=M), (2, ((None,) * 3, ((9, 9), (5, 5)))))

    def test_time(self):
        self.assertIsNotNone(step(time=("minus", M, whole(3))))
        self.assertIsNone(step(time=("minus", M, whole(4))))
        self.assertIsNone(step(time=whole(0)))


class DrawnTest(unittest.TestCase):
    def test_against_the_document(self):
        draw = Draw(random.Random(14))
        found = 0
        for _ in range(150):
            task = draw.task()
            for _ in range(6):
                box = draw.box(task)
                for index in range(len(task.all_steps())):
                    answer = step_from(task, index, box)
                    self.assertEqual(answer, boxoracle.step_from(task, index, box))
                    found += answer is not None
        self.assertGreater(found, 1000)

    def test_no_state_is_lost(self):
        draw = Draw(random.Random(15))
        for _ in range(60):
            task = draw.task()
            box = draw.box(task)
            answers = [step_from(task, index, box) for index in range(len(task.all_steps()))]
            for state in list(states_in(box))[::9]:
                for index, answer in enumerate(answers):
                    done = oracle.attempt(task, state, index)
                    if done[0] == "done":
                        self.assertLessEqual(answer[0], done[1])
                        self.assertTrue(in_box(done[3], answer[1]))

    def test_the_box_of_a_state(self):
        draw = Draw(random.Random(16))
        for _ in range(100):
            task = draw.task()
            state = draw.state(task)
            for index in range(len(task.all_steps())):
                done = try_step(task, state, index)
                answer = step_from(task, index, box_of_state(state))
                self.assertEqual(answer, None if done[0] == "not" else (done[1], box_of_state(done[3])))

    def test_a_greater_box_has_a_greater_answer(self):
        draw = Draw(random.Random(17))
        for _ in range(60):
            task = draw.task()
            box, state = draw.box(task), draw.state(task)
            if in_box(state, box):
                for index in range(len(task.all_steps())):
                    small = step_from(task, index, box_of_state(state))
                    self.assertTrue(small is None or lies_in(small[1], step_from(task, index, box)[1]))

    def test_a_box_in_a_box(self):
        # Levels and projections rely on it.
        draw = Draw(random.Random(18))
        found = 0
        for _ in range(300):
            task = draw.task()
            box = draw.box(task)
            inner = common_box(box, draw.box(task))
            if inner is not None:
                for index in range(len(task.all_steps())):
                    small, great = step_from(task, index, inner), step_from(task, index, box)
                    if small is not None:
                        found += 1
                        self.assertIsNotNone(great)
                        self.assertGreaterEqual(small[0], great[0])
                        self.assertTrue(lies_in(small[1], great[1]))
        self.assertGreater(found, 50)


if __name__ == "__main__":
    unittest.main()

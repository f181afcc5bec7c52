"""Point 46, and sureplan/outline.py."""

import random
import unittest

import boxoracle
from randoms import Draw
from samples import FALSE, ONE, TRUE, action, fact, number, trip, whole, world
from sureplan.boxes import box_of_state, hull, in_box, lies_in, whole_box
from sureplan.errors import BadValue
from sureplan.outline import changeable, outline
from sureplan.search import reached_states
from sureplan.stepping import step_from
from sureplan.tasks import Task

N = number("n")


def errand():
    """The worked example of the chapter on bounds: at home, at the shop, fuel, and driving there and back."""
    steps = (("go", (("?a", "Thing"), ("?b", "Thing")),
              ("and", (("not", ("same", "?a", "?b")), fact("at", "?a"), ("ge", number("fuel"), whole(2)))),
              (("make", "at", ("?b",)), ("unmake", "at", ("?a",)), ("take", "fuel", (), whole(2))), whole(3), ONE, ()),)
    return Task(objects=(("home", "Thing"), ("shop", "Thing")), facts=(("at", ("Thing",)),),
                numbers=(("fuel", (), 0, 5),), actions=steps, goal=fact("at", "shop"))


class OutlineTest(unittest.TestCase):
    def test_the_worked_example(self):
        task = errand()
        state = ((True, False), (5,))
        self.assertEqual(outline(task, state), ((None, None), ((0, 5),)))
        self.assertEqual(changeable(task, state), ([0, 1], [0], [1, 2]))
        self.assertEqual(outline(task, ((True, False), (1,))), ((True, False), ((1, 1),)))
        self.assertEqual(changeable(task, ((True, False), (1,))), ([], [], []))
        self.assertEqual(outline(task, ((True, False), (2,))), ((None, None), ((0, 2),)))

    def test_several_rounds(self):
        up = action("up", condition=("lt", N, whole(150)), effects=(("add", "n", (), ONE),))
        done = action("done", condition=("eq", N, whole(150)), effects=(("make", "a", ()),))
        last = action("last", condition=fact("a"), effects=(("unmake", "b", ()),))
        far = action("far", condition=("gt", N, whole(150)), effects=(("make", "c", ()),))
        task = Task(facts=(("a", ()), ("b", ()), ("c", ())), numbers=(("n", (), 0, 200),), actions=(last, done, up, far))
        state = ((False, True, False), (3,))
        self.assertEqual(outline(task, state), ((None, None, False), ((3, 150),)))
        self.assertEqual(changeable(task, state), ([0, 1], [0], [0, 1, 2]))

    def test_the_box_after_is_cut_by_the_range(self):
        double = action("double", effects=(("set", "n", (), ("times", 2, N)),))
        back = action("back", effects=(("take", "n", (), ONE),))
        numbers = (("n", (), 1, 50),)
        self.assertEqual(outline(Task(numbers=numbers, actions=(double, back)), ((), (1,))), ((), ((1, 50),)))
        self.assertEqual(outline(Task(numbers=numbers, actions=(double,)), ((), (25,))), ((), ((25, 50),)))
        self.assertEqual(outline(Task(numbers=numbers, actions=(double,)), ((), (26,))), ((), ((26, 26),)))

    def test_nothing_is_possible(self):
        task = Task(facts=(("a", ()),), numbers=(("n", (), 0, 9),), actions=(action(condition=FALSE),))
        self.assertEqual(outline(task, ((True,), (4,))), ((True,), ((4, 4),)))
        self.assertEqual(changeable(task, ((True,), (4,))), ([], [], []))
        self.assertEqual(outline(Task(), ((), ())), ((), ()))
        self.assertEqual(changeable(Task(), ((), ())), ([], [], []))

    def test_steps_that_change_nothing_may_be_possible(self):
        task = Task(facts=(("a", ()),), actions=(action("b", effects=(("make", "a", ()),)), action("c", condition=TRUE)))
        self.assertEqual(changeable(task, ((True,), ())), ([], [], [0, 1]))

    def test_trip(self):
        task = trip()
        self.assertEqual(outline(task, task.start_state()), ((None, None), ((0, 3),)))
        self.assertEqual(changeable(task, task.start_state()), ([0, 1], [0], [0]))
        self.assertEqual(changeable(task, ((False, True), (3,))), ([], [], []))

    def test_world(self):
        task = world()
        facts, numbers, steps = changeable(task, task.start_state())
        self.assertEqual((facts, numbers), ([0, 1], [1]))
        self.assertEqual(steps, [1, 2, 8])


class WrongArgumentsTest(unittest.TestCase):
    def test_no_state(self):
        task = trip()
        for wrong in (None, [], ((True, False), (10,)), ((True, False), [3]), ((True,), (3,)), ((1, 0), (3,)),
                      ((None, True), (3,)), ((True, False), (True,)), ((True, None), ((0, 3),))):
            for function in (outline, changeable):
                with self.assertRaises(BadValue) as caught:
                    function(task, wrong)
                self.assertEqual(caught.exception.name, "state")

    def test_new_lists(self):
        task = trip()
        first = changeable(task, task.start_state())
        for one in first:
            one.clear()
        self.assertEqual(changeable(task, task.start_state()), ([0, 1], [0], [0]))


class DrawnTest(unittest.TestCase):
    def test_against_the_document(self):
        draw = Draw(random.Random(18))
        for _ in range(120):
            task = draw.task()
            state = draw.state(task)
            box = outline(task, state)
            self.assertEqual(box, boxoracle.outline(task, state))
            self.assertTrue(lies_in(box_of_state(state), box) and lies_in(box, whole_box(task)))
            after = [step_from(task, step, box) for step in range(len(task.all_steps()))]
            for answer in after:
                self.assertTrue(answer is None or hull(box, answer[1]) == box)
            expected = ([index for index, entry in enumerate(box[0]) if entry is None],
                        [index for index, (low, high) in enumerate(box[1]) if low != high],
                        [index for index, answer in enumerate(after) if answer is not None])
            self.assertEqual(changeable(task, state), expected)

    def test_every_reached_state_is_in_the_outline(self):
        draw = Draw(random.Random(19))
        for _ in range(60):
            task = draw.task()
            state = task.start_state()
            box = outline(task, state)
            for reached in reached_states(task, state):
                self.assertTrue(in_box(reached, box))


if __name__ == "__main__":
    unittest.main()

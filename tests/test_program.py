"""Points 2, 5, 6 and 9 over the whole program, and the classes of errors that the interface lists."""

import copy
import importlib
import inspect
import unittest

from sureplan import errors
from sureplan.desk import Desk
from sureplan.errors import BadTask, BadValue, NotPossible, PlanError, TextError, TooLarge, TooManyStates
from sureplan.judge import Judge
from sureplan.reading import read_task
from test_interface import FUNCTIONS
from test_reading_task import parts_of

TEXT = """(object red Thing) (object green Thing) (fact lit (Thing)) (fact power ()) (number coins () 0 9) (resource crew () 2)
(action connect () (then (make power) (take coins 1)) (use crew 1))
(action light ((?x Thing)) (if power) (then (make (lit ?x))) (time 2) (use crew 1))
(start (= coins 3)) (goal (and (lit red) (lit green)))"""
TASK = read_task(TEXT)
STATE = TASK.start_state()
STEPS = [0, 1, 2]
GOAL = ("fact", "power", ())
BOX = ((None, None, False), ((0, 5),))
OTHER_BOX = ((None, True, None), ((3, 9),))
WISHES = [(GOAL, 3), (("fact", "lit", ("red",)), 4)]
SEEN = (("fact", 2, True), ("number", 0, 5))
FORM = "(a (b c))"
LINES = [("sum",), ("tree", 1, 1), ("label", 0), ("claim", 0)]
# The arguments by their names, and by the names of a function and of the argument where this is not enough.
ARGUMENTS = {
    "task": TASK, "state": STATE, "steps": STEPS, "formula": GOAL, "amount": ("number", "coins", ()), "step": 0,
    "goal": GOAL, "box": BOX, "first": BOX, "second": OTHER_BOX, "wanted": True, "lines": LINES, "order": [0, 2, 1],
    "patterns": [[("fact", 2), ("number", 0)]], "starts": [0, 1, 1], "time": 3, "seen": SEEN, "tree": [("leaf", True)],
    "old": [0, 1, 1], "new": [1, 0, 1], "wishes": WISHES, "least": 4, "budget": 2, "word": "12",
    "scan text": TEXT, "end_of text": TEXT, "parse_commands text": TEXT, "parse_form text": FORM, "read_task text": TEXT,
    "read_formula text": "power", "read_amount text": "(+ coins 1)", "read_state text": "(state power)",
    "read_seen text": "(seen (not power))", "read_step text": "(light red)", "read_steps text": "(connect) (light red)",
    "read_lines text": "(sum) (label none)", "accepts_soonest lines": [("chain", (0, 1))],
}


def calls():
    """Every function of the interface with arguments, for which it raises no error."""
    found = []
    for module, listed in FUNCTIONS.items():
        for name in listed:
            function = getattr(importlib.import_module("sureplan." + module), name)
            args = [ARGUMENTS.get(f"{name} {parameter}", ARGUMENTS.get(parameter))
                    for parameter in inspect.signature(function).parameters]
            found.append((name, function, args))
    return found


def spoil(value):
    """Empties all lists that a value contains."""
    if isinstance(value, (list, tuple)):
        for part in value:
            spoil(part)
    if isinstance(value, list):
        value.clear()


def comparable(value):
    return parts_of(value) if hasattr(value, "goal") else value


class EveryFunctionTest(unittest.TestCase):
    def test_all_functions_are_called(self):
        self.assertEqual(len(calls()), sum(len(listed) for listed in FUNCTIONS.values()))
        self.assertGreater(len(calls()), 60)

    def test_equal_calls_return_equal_results(self):
        for name, function, args in calls():
            before = copy.deepcopy(args[1:])
            first = copy.deepcopy(comparable(function(*args)))
            found = function(*args)
            self.assertEqual(comparable(found), first, name)
            self.assertEqual(args[1:], before, name)
            # Changing a returned list has no effect on later calls.
            spoil(found)
            self.assertEqual(comparable(function(*args)), first, name)
            self.assertEqual(args[1:], before, name)

    def test_only_the_kinds_of_values_of_the_document_are_returned(self):
        for name, function, args in calls():
            found = function(*args)
            if not hasattr(found, "goal"):
                self.look(found, name)

    def look(self, value, name):
        self.assertIn(type(value), (int, str, bool, type(None), tuple, list), name)
        if isinstance(value, (tuple, list)):
            for part in value:
                self.look(part, name)

    def test_a_task_is_not_changed(self):
        before = copy.deepcopy(parts_of(TASK))
        for _, function, args in calls():
            function(*args)
        self.assertEqual(parts_of(TASK), before)
        self.assertEqual(parts_of(read_task(TEXT)), before)

    def test_wrong_values_raise_the_named_errors_alone(self):
        """Each argument that is checked is replaced by other values; the first wrong one is reported."""
        checked = ("state", "steps", "formula", "amount", "step", "goal", "patterns", "seen", "wishes", "budget")
        for name, function, args in calls():
            parameters = list(inspect.signature(function).parameters)
            for place, parameter in enumerate(parameters):
                if parameter not in checked or args[0] != TASK:
                    continue
                if name in ("step_from", "in_box", "box_of_state", "linear_form", "span_of", "judged", "cut", "remainder"):
                    # Nothing is promised for wrong arguments in the chapter on boxes, but for outlines.
                    continue
                for wrong in (0.5, "x", (0,), [None], {}, -1, [-1]):
                    with self.assertRaises(BadValue, msg=(name, parameter, wrong)) as caught:
                        function(*(args[:place] + [wrong] + args[place + 1:]))
                    self.assertEqual(caught.exception.name, parameter, (name, wrong))


class ErrorsTest(unittest.TestCase):
    """Point 9."""

    def test_the_classes(self):
        listed = (BadTask, BadValue, NotPossible, TooManyStates, TooLarge, TextError)
        self.assertTrue(issubclass(PlanError, ValueError))
        for one in listed:
            self.assertTrue(issubclass(one, PlanError))
            self.assertEqual([other for other in listed if issubclass(one, other)], [one])
        found = [value for value in vars(errors).values() if isinstance(value, type)]
        self.assertEqual(sorted(one.__name__ for one in found), sorted([one.__name__ for one in listed] + ["PlanError"]))

    def test_their_attributes(self):
        self.assertEqual(vars(TextError(2, 3, "words")), {"line": 2, "column": 3, "words": "words"})
        self.assertEqual(vars(BadTask(("goal",), "form")), {"where": ("goal",), "why": "form"})
        self.assertEqual(vars(NotPossible(1, ("cost",))), {"position": 1, "reason": ("cost",)})
        for error in (BadValue("state"), TooManyStates(3000), TooLarge("steps")):
            self.assertEqual(len(vars(error)), 1)
            self.assertIsInstance(str(error), str)


class ObjectsTest(unittest.TestCase):
    def test_objects_copy_what_they_are_given(self):
        steps = [0]
        desk = Desk(TASK)
        desk.go(steps)
        steps.append(1)
        self.assertEqual(desk.walked(), [0])
        self.assertEqual(Judge(TASK).claim(), None)
        judge = Judge(TASK)
        self.assertEqual([judge.line(line) for line in LINES], ["right"] * 4)
        # What a judge has read is not known to another one.
        self.assertEqual((judge.claim(), Judge(TASK).claim()), (0, None))

    def test_equal_calls_of_desks(self):
        seen = []
        for _ in range(2):
            desk = Desk(TASK)
            seen.append([desk.plan(), desk.pursue(1), desk.observe(SEEN), desk.plan(), desk.undo(), desk.current,
                         desk.cost, desk.walked(), desk.searches])
        self.assertEqual(seen[0], seen[1])


class NumbersTest(unittest.TestCase):
    """Point 5: costs, times and values have no bound of their own."""

    def test_large_costs(self):
        far = read_task("(number n () 0 9) (action up () (then (add n 1)) (cost (* 1000000 (* 1000000 (* 1000000 n)))))"
                        "(goal (= n 3))")
        desk = Desk(far)
        self.assertEqual(desk.plan(), (3 * 10 ** 18, [0, 0, 0]))
        self.assertEqual(desk.pursue(), (3 * 10 ** 18, ((), (3,)), True))


if __name__ == "__main__":
    unittest.main()

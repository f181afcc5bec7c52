"""Points 2, 11, 12, 19 to 21, and the interface of sureplan/tasks.py."""

import unittest

from samples import KINDS, OBJECTS, ONE, TRUE, action, drive_action, fact, number, whole, world
from sureplan.errors import BadTask, BadValue
from sureplan.tasks import Task


class ExampleTest(unittest.TestCase):
    def test_example_of_the_document(self):
        drive = ("drive", (("?t", "Truck"), ("?a", "Place"), ("?b", "Place")), ("fact", "at", ("?t", "?a")),
                 (("make", "at", ("?t", "?b")), ("unmake", "at", ("?t", "?a"))), ("int", 3), ("int", 1), ())
        task = Task(kinds=(("Place", "Thing"), ("Truck", "Thing")),
                    objects=(("home", "Place"), ("shop", "Place"), ("van", "Truck")),
                    facts=(("at", ("Truck", "Place")),), numbers=(("fuel", (), 0, 5),), actions=(drive,),
                    start=((("at", ("van", "home")),), (("fuel", (), 5),)), goal=("fact", "at", ("van", "shop")))
        self.assertEqual(task.all_facts(), [("at", ("van", "home")), ("at", ("van", "shop"))])
        self.assertEqual(task.all_steps(), [("drive", ("van", "home", "home")), ("drive", ("van", "home", "shop")),
                                            ("drive", ("van", "shop", "home")), ("drive", ("van", "shop", "shop"))])
        self.assertEqual(task.start_state(), ((True, False), (5,)))
        self.assertEqual(task.condition_of(1), ("fact", "at", ("van", "home")))
        self.assertEqual(task.objects_of("Thing"), ["home", "shop", "van"])

    def test_error_of_the_document(self):
        with self.assertRaises(BadTask) as caught:
            Task(objects=(("van", "Truck"),))
        self.assertEqual((caught.exception.where, caught.exception.why), (("objects", 0), "kind"))


class AttributesTest(unittest.TestCase):
    def test_defaults(self):
        task = Task()
        for part in (task.kinds, task.objects, task.facts, task.numbers, task.resources, task.actions):
            self.assertEqual(part, ())
        self.assertEqual((task.start, task.goal), (((), ()), ("true",)))
        self.assertEqual(task.start_state(), ((), ()))
        self.assertEqual(task.all_steps(), [])
        self.assertEqual(task.objects_of("Thing"), [])

    def test_attributes_are_the_arguments(self):
        parts = {"kinds": KINDS, "objects": OBJECTS, "facts": (("open", ()), ("at", ("Truck", "Place"))),
                 "numbers": (("fuel", ("Truck",), 0, 5),), "resources": (("crew", (), 3), ("dock", ("Place",), 1)),
                 "actions": (drive_action(),), "start": ((("open", ()),), ()), "goal": fact("open")}
        task = Task(**parts)
        for name, value in parts.items():
            self.assertEqual(getattr(task, name), value)


class OrderTest(unittest.TestCase):
    def test_objects_of_kinds(self):
        task = world()
        self.assertEqual(task.objects_of("Truck"), ["red", "old"])
        self.assertEqual(task.objects_of("Van"), ["red"])
        self.assertEqual(task.objects_of("Ghost"), [])
        self.assertEqual(task.objects_of("Thing"), ["home", "shop", "red", "old"])
        for wrong in ("Nobody", "truck", "red", "", None, 1, ["Truck"], ("Truck",)):
            with self.assertRaises(BadValue) as caught:
                task.objects_of(wrong)
            self.assertEqual(caught.exception.name, "kind")

    def test_kinds_of_three_levels(self):
        task = Task(kinds=(("A", "Thing"), ("B", "A"), ("C", "B"), ("D", "A")),
                    objects=(("d", "D"), ("c", "C"), ("a", "A"), ("b", "B")), facts=(("f", ("B",)),))
        self.assertEqual(task.objects_of("A"), ["d", "c", "a", "b"])
        self.assertEqual(task.objects_of("B"), ["c", "b"])
        self.assertEqual(task.all_facts(), [("f", ("c",)), ("f", ("b",))])

    def test_facts_numbers_resources(self):
        task = world()
        places = ("home", "shop")
        self.assertEqual(task.all_facts(), [("at", (t, p)) for t in ("red", "old") for p in places] + [("open", ())]
                         + [("near", (p, q)) for p in places for q in places])
        self.assertEqual(task.all_numbers(), [("coins", (), 0, 9), ("fuel", ("red",), -2, 5), ("fuel", ("old",), -2, 5)])
        self.assertEqual(task.all_resources(), [("crew", (), 3), ("dock", ("home",), 2), ("dock", ("shop",), 2)])

    def test_steps(self):
        task = world(actions=(action("wait"), drive_action(), action("beep", (("?v", "Van"),))))
        places = ("home", "shop")
        self.assertEqual(task.all_steps(), [("wait", ())] + [("drive", (t, a, b)) for t in ("red", "old") for a in places
                                                             for b in places] + [("beep", ("red",))])

    def test_names_are_not_reordered(self):
        task = Task(objects=(("z", "Thing"), ("a", "Thing")), facts=(("late", ()), ("early", ())),
                    actions=(action("y"), action("b")))
        self.assertEqual(task.all_facts(), [("late", ()), ("early", ())])
        self.assertEqual(task.all_steps(), [("y", ()), ("b", ())])
        self.assertEqual(task.objects_of("Thing"), ["z", "a"])


class IndexTest(unittest.TestCase):
    def test_indexes(self):
        task = world()
        for index, (name, args) in enumerate(task.all_facts()):
            self.assertEqual(task.fact_index(name, args), index)
        for index, (name, args, _, _) in enumerate(task.all_numbers()):
            self.assertEqual(task.number_index(name, args), index)
        for index, (name, args, _) in enumerate(task.all_resources()):
            self.assertEqual(task.resource_index(name, args), index)
        for index, (name, args) in enumerate(task.all_steps()):
            self.assertEqual(task.step_index(name, args), index)

    def test_keywords(self):
        task = world()
        self.assertEqual(task.fact_index(name="open", args=()), 4)
        self.assertEqual(task.number_index(name="coins", args=()), 0)
        self.assertEqual(task.resource_index(name="crew", args=()), 0)
        self.assertEqual(task.step_index(action="wait", args=()), 8)

    def test_nothing_of_this_name(self):
        task = world()
        wrong = [("nobody", ()), ("at", ("red",)), ("at", ("home", "red")), ("at", ("red", "home", "shop")),
                 ("at", ("?t", "home")), ("coins", ("red",)), ("fuel", ()), ("fuel", ("home",)), ("crew", ("home",)),
                 ("dock", ("red",)), ("drive", ()), ("drive", ("home", "home", "home")), ("wait", ("red",)),
                 (None, ()), ("at", ["red", "home"]), (["at"], ("red", "home")), ("at", (["red"], "home"))]
        for name, args in wrong:
            for find, word in ((task.fact_index, "fact"), (task.number_index, "number"),
                               (task.resource_index, "resource"), (task.step_index, "step")):
                with self.assertRaises(BadValue) as caught:
                    find(name, args)
                self.assertEqual(caught.exception.name, word)


class StepPartsTest(unittest.TestCase):
    def setUp(self):
        self.pairs = (("?t", "Truck"), ("?p", "Place"))
        inner = (("?q", "Place"),)
        self.condition = ("and", (fact("at", "?t", "?p"), ("not", ("all", inner, fact("near", "?p", "?q"))),
                                  ("implies", ("some", inner, ("same", "?q", "?p")), ("lt", number("fuel", "?t"), ONE)),
                                  ("or", (("same", "red", "?t"), ("le", ("minus", ONE, number("fuel", "?t")), ONE)))))
        self.effects = (("each", inner, (("make", "near", ("?q", "?p")), ("unmake", "at", ("?t", "?q")))),
                        ("when", fact("at", "?t", "home"), (("set", "fuel", ("?t",), number("fuel", "?t")),)),
                        ("add", "coins", (), ("times", 2, number("fuel", "?t"))), ("take", "coins", (), ONE))
        uses = (("dock", ("?p",), 2), ("crew", (), 1), ("dock", ("?p",), 1))
        cost = ("plus", (number("fuel", "?t"), ("int", 4)))
        entry = action("act", self.pairs, self.condition, self.effects, cost, ("times", 3, number("fuel", "?t")), uses)
        self.task = world(actions=(action("wait"), entry))

    def test_objects_in_place_of_parameters(self):
        step = self.task.step_index("act", ("old", "shop"))
        inner = (("?q", "Place"),)
        self.assertEqual(self.task.condition_of(step), (
            "and", (fact("at", "old", "shop"), ("not", ("all", inner, fact("near", "shop", "?q"))),
                    ("implies", ("some", inner, ("same", "?q", "shop")), ("lt", number("fuel", "old"), ONE)),
                    ("or", (("same", "red", "old"), ("le", ("minus", ONE, number("fuel", "old")), ONE))))))
        self.assertEqual(self.task.effects_of(step), (
            ("each", inner, (("make", "near", ("?q", "shop")), ("unmake", "at", ("old", "?q")))),
            ("when", fact("at", "old", "home"), (("set", "fuel", ("old",), number("fuel", "old")),)),
            ("add", "coins", (), ("times", 2, number("fuel", "old"))), ("take", "coins", (), ONE)))
        self.assertEqual(self.task.cost_of(step), ("plus", (number("fuel", "old"), ("int", 4))))
        self.assertEqual(self.task.time_of(step), ("times", 3, number("fuel", "old")))
        self.assertEqual(self.task.uses_of(step), ((2, 2), (0, 1), (2, 1)))

    def test_steps_without_parameters(self):
        self.assertEqual(self.task.condition_of(0), TRUE)
        self.assertEqual(self.task.effects_of(0), ())
        self.assertEqual(self.task.cost_of(0), ONE)
        self.assertEqual(self.task.time_of(0), ONE)
        self.assertEqual(self.task.uses_of(0), ())

    def test_is_step_and_errors(self):
        many = len(self.task.all_steps())
        self.assertEqual(many, 5)
        for step in (0, 4):
            self.assertIs(self.task.is_step(step), True)
        for step in (-1, 5, True, False, None, "0", 0.0, (0,), [0]):
            self.assertIs(self.task.is_step(step), False)
            for of in (self.task.condition_of, self.task.effects_of, self.task.cost_of, self.task.time_of,
                       self.task.uses_of):
                with self.assertRaises(BadValue) as caught:
                    of(step)
                self.assertEqual(caught.exception.name, "step")


class StateTest(unittest.TestCase):
    def test_start_state(self):
        task = world()
        self.assertEqual(task.start_state(), ((True, False, False, False, True) + (False,) * 4, (3, 5, -2)))
        self.assertEqual(world(start=((), ())).start_state(), ((False,) * 9, (0, -2, -2)))

    def test_states(self):
        task = Task(facts=(("a", ()), ("b", ())), numbers=(("n", (), -1, 1), ("m", (), 0, 0)))
        for state in (((True, False), (-1, 0)), ((False, False), (1, 0))):
            self.assertIs(task.is_state(state), True)
        for state in (None, (), ((True, False),), ((True, False), (0, 0), ()), [(True, False), (0, 0)],
                      ([True, False], (0, 0)), ((True, False), [0, 0]), ((True,), (0, 0)), ((True,) * 3, (0, 0)),
                      ((True, False), (0,)), ((True, False), (0, 0, 0)), ((True, 0), (0, 0)), ((1, False), (0, 0)),
                      ((True, None), (0, 0)), ((True, "False"), (0, 0)), ((True, False), (True, 0)),
                      ((True, False), (0, False)), ((True, False), (2, 0)), ((True, False), (-2, 0)),
                      ((True, False), (0, 1)), ((True, False), (0, None)), ((True, False), (0.0, 0)),
                      ((True, False), None), (None, (0, 0)), "ab", 7):
            self.assertIs(task.is_state(state), False, state)

    def test_an_empty_task(self):
        self.assertIs(Task().is_state(((), ())), True)
        self.assertIs(Task().is_state(((True,), ())), False)
        self.assertIs(Task().is_step(0), False)


class ListsTest(unittest.TestCase):
    def test_returned_lists_can_be_changed(self):
        task = world()
        for of in (task.all_facts, task.all_numbers, task.all_resources, task.all_steps,
                   lambda: task.objects_of("Truck")):
            before = of()
            self.assertIs(type(before), list)
            changed = of()
            changed.clear()
            changed.append(None)
            self.assertEqual(of(), before)
        self.assertEqual(task.step_index("wait", ()), 8)
        self.assertEqual(task.start_state(), world().start_state())

    def test_kinds_of_values(self):
        task = world()
        self.assertIs(type(task.effects_of(0)), tuple)
        self.assertIs(type(task.uses_of(0)), tuple)
        self.assertIs(type(task.start_state()), tuple)
        self.assertTrue(all(type(entry) is tuple for entry in task.all_numbers() + task.all_steps()))


if __name__ == "__main__":
    unittest.main()

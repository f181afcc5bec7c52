"""Points 10 to 12, 16 and 17: kinds, objects, facts, numbers and resources, and the order of their checks."""

import unittest

from samples import action, problem
from sureplan.tasks import Task

LONG = "a" * 24
RESERVED = ("true", "false", "not", "and", "or", "implies", "all", "some", "same")
BAD_NAMES = ("", "A", "Ab", "1a", "_a", "a-b", "a b", "?a", "a\n", "\u00e4", "a\u00e4", "a\u0661", "a" * 25)


def at(part, entry, **more):
    return problem(**{part: (entry,)}, **more)


class WholePartsTest(unittest.TestCase):
    def test_a_part_that_is_no_tuple(self):
        for part in ("kinds", "objects", "facts", "numbers", "resources", "actions"):
            for value in ([], {}, None, "ab", 1):
                self.assertEqual(problem(**{part: value}), ((part,), "form"))

    def test_too_many_entries(self):
        entries = {
            "kinds": (12, lambda k: (f"K{k}", "Thing")),
            "objects": (30, lambda k: (f"o{k}", "Thing")),
            "facts": (12, lambda k: (f"f{k}", ())),
            "numbers": (8, lambda k: (f"n{k}", (), 0, 1)),
            "resources": (8, lambda k: (f"r{k}", (), 1)),
            "actions": (12, lambda k: action(f"a{k}")),
        }
        for part, (most, entry) in entries.items():
            full = tuple(entry(k) for k in range(most))
            self.assertIsNone(problem(**{part: full}), part)
            self.assertEqual(problem(**{part: full + (entry(most),)}), ((part,), "many"))
            # "many" comes before the entries are looked at
            self.assertEqual(problem(**{part: (None,) * (most + 1)}), ((part,), "many"))
            self.assertEqual(problem(**{part: full[:-1] + (None,)}), ((part, most - 1), "form"))

    def test_parts_are_checked_in_order(self):
        bad = {"kinds": (1,), "objects": (1,), "facts": (1,), "numbers": (1,), "resources": (1,), "actions": (1,),
               "start": None, "goal": None}
        good = {"kinds": (), "objects": (), "facts": (), "numbers": (), "resources": (), "actions": (),
                "start": ((), ()), "goal": ("true",)}
        for part in list(bad):
            where = (part,) if part in ("start", "goal") else (part, 0)
            self.assertEqual(problem(**bad), (where, "form"))
            bad[part] = good[part]
        self.assertIsNone(problem(**bad))

    def test_only_keywords(self):
        with self.assertRaises(TypeError):
            Task(())


class TooMuchDeclaredTest(unittest.TestCase):
    def objects(self, many):
        return tuple((f"o{k}", "Thing") for k in range(many))

    def test_facts(self):
        two = ("f", ("Thing", "Thing"))
        ten = self.objects(10)
        self.assertIsNone(problem(objects=ten, facts=(two, ("g", ("Thing",)), ("h", ("Thing",)))))
        self.assertEqual(problem(objects=ten, facts=(two, ("g", ("Thing",)), ("h", ("Thing",)), ("i", ()))),
                         (("facts",), "many"))
        # all entries are checked before
        self.assertEqual(problem(objects=ten, facts=(two, two)), (("facts", 1), "duplicate"))
        self.assertEqual(problem(objects=ten, facts=(two, ("g", ("Thing", "Thing")), 7)), (("facts", 2), "form"))
        # and later parts after
        self.assertEqual(problem(objects=ten, facts=(two, ("g", ("Thing", "Thing"))), numbers=7),
                         (("facts",), "many"))

    def test_a_huge_product(self):
        four = ("Thing",) * 4
        objects = self.objects(30)
        self.assertEqual(problem(objects=objects, facts=(("f", four),)), (("facts",), "many"))
        self.assertEqual(problem(objects=objects, numbers=(("n", four, 0, 1),)), (("numbers",), "many"))
        self.assertEqual(problem(objects=objects, resources=(("r", four, 1),)), (("resources",), "many"))

    def test_numbers(self):
        objects = self.objects(15)
        two = (("m", ("Thing",), 0, 0), ("n", ("Thing",), 0, 0))
        self.assertIsNone(problem(objects=objects, numbers=two))
        self.assertEqual(problem(objects=objects, numbers=two + (("k", (), 0, 0),)), (("numbers",), "many"))

    def test_resources(self):
        objects = self.objects(30)
        two = (("m", ("Thing",), 1), ("n", ("Thing",), 1))
        self.assertIsNone(problem(objects=objects, resources=two))
        self.assertEqual(problem(objects=objects, resources=two + (("k", (), 1),)), (("resources",), "many"))

    def test_steps(self):
        objects = self.objects(20)
        pair = action("a", (("?x", "Thing"), ("?y", "Thing")))
        self.assertIsNone(problem(objects=objects, actions=(pair,)))
        self.assertEqual(len(Task(objects=objects, actions=(pair,)).all_steps()), 400)
        self.assertEqual(problem(objects=objects, actions=(pair, action("b"))), (("actions",), "many"))
        self.assertEqual(problem(objects=objects, actions=(pair, action("b")), start=None), (("actions",), "many"))
        four = action("a", (("?x", "Thing"), ("?y", "Thing"), ("?z", "Thing"), ("?u", "Thing")))
        self.assertEqual(problem(objects=self.objects(30), actions=(four,)), (("actions",), "many"))

    def test_kinds_without_objects_count_nothing(self):
        kinds, objects = (("Empty", "Thing"),), self.objects(20)
        pair = action("a", (("?x", "Thing"), ("?y", "Thing")))
        none = action("b", (("?x", "Thing"), ("?y", "Empty")))
        self.assertIsNone(problem(kinds=kinds, objects=objects, actions=(pair, none)))
        facts = tuple((f"f{k}", ("Thing",)) for k in range(6)) + (("g", ("Empty", "Thing")),)
        self.assertIsNone(problem(kinds=kinds, objects=objects, facts=facts))

    def test_no_objects_no_facts(self):
        task = Task(kinds=(("Empty", "Thing"),), facts=(("f", ("Empty",)),), numbers=(("n", ("Empty",), 0, 1),),
                    resources=(("r", ("Empty",), 1),), actions=(action("a", (("?x", "Empty"),)),))
        self.assertEqual(task.all_facts() + task.all_numbers() + task.all_resources() + task.all_steps(), [])


class KindsTest(unittest.TestCase):
    def test_form(self):
        for entry in (None, "ab", ("A",), ("A", "Thing", "Thing"), ["A", "Thing"], (1, "Thing"), ("A", None),
                      ("A", ("Thing",)), ()):
            self.assertEqual(at("kinds", entry), (("kinds", 0), "form"))

    def test_name(self):
        self.assertIsNone(at("kinds", ("K" + "a" * 23, "Thing")))
        self.assertIsNone(at("kinds", ("K_9", "Thing")))
        for name in ("", "a", "1A", "_A", "K" + "a" * 24, "A-b", "\u00c4", "?A"):
            self.assertEqual(at("kinds", (name, "Thing")), (("kinds", 0), "name"))
        self.assertEqual(at("kinds", ("a", "Nobody")), (("kinds", 0), "name"))

    def test_duplicate(self):
        self.assertEqual(at("kinds", ("Thing", "Nobody")), (("kinds", 0), "duplicate"))
        self.assertEqual(problem(kinds=(("A", "Thing"), ("A", "Nobody"))), (("kinds", 1), "duplicate"))

    def test_parent(self):
        self.assertEqual(at("kinds", ("A", "A")), (("kinds", 0), "kind"))
        self.assertEqual(problem(kinds=(("A", "B"), ("B", "Thing"))), (("kinds", 0), "kind"))
        self.assertIsNone(problem(kinds=(("B", "Thing"), ("A", "B"))))
        self.assertEqual(at("kinds", ("A", "a")), (("kinds", 0), "kind"))


class ObjectsTest(unittest.TestCase):
    def test_form(self):
        for entry in (None, ("a",), ("a", "Thing", 1), ["a", "Thing"], ("a", 1), (True, "Thing")):
            self.assertEqual(at("objects", entry), (("objects", 0), "form"))

    def test_name(self):
        self.assertIsNone(at("objects", (LONG, "Thing")))
        self.assertIsNone(at("objects", ("aB_9", "Thing")))
        for name in BAD_NAMES + RESERVED:
            self.assertEqual(at("objects", (name, "Nobody")), (("objects", 0), "name"))

    def test_duplicate(self):
        self.assertEqual(problem(objects=(("a", "Thing"), ("a", "Nobody"))), (("objects", 1), "duplicate"))

    def test_kind(self):
        self.assertEqual(at("objects", ("van", "Truck")), (("objects", 0), "kind"))
        self.assertEqual(at("objects", ("van", "truck")), (("objects", 0), "kind"))


class FactsTest(unittest.TestCase):
    def test_form(self):
        for entry in (None, ("f",), ("f", ["Thing"]), ("f", "Thing"), ("f", (1,)), ["f", ()], ("f", (), 1), (1, ())):
            self.assertEqual(at("facts", entry), (("facts", 0), "form"))

    def test_name_and_duplicate(self):
        self.assertIsNone(at("facts", (LONG, ())))
        for name in BAD_NAMES + RESERVED:
            self.assertEqual(at("facts", (name, ("Nobody",) * 5)), (("facts", 0), "name"))
        self.assertEqual(at("facts", ("a", ("Nobody",) * 5), objects=(("a", "Thing"),)), (("facts", 0), "duplicate"))
        self.assertEqual(problem(facts=(("a", ()), ("a", ()))), (("facts", 1), "duplicate"))

    def test_count_before_kind(self):
        self.assertIsNone(at("facts", ("f", ("Thing",) * 4)))
        self.assertEqual(at("facts", ("f", ("Nobody",) * 5)), (("facts", 0), "count"))
        self.assertEqual(at("facts", ("f", ("Thing", "Nobody"))), (("facts", 0), "kind"))


class NumbersTest(unittest.TestCase):
    def test_form(self):
        for entry in (None, ("n", (), 0), ("n", (), 0, True), ("n", (), None, 1), ("n", [], 0, 1), ("n", (1,), 0, 1),
                      ("n", (), 0, 1, 2), ["n", (), 0, 1], (1, (), 0, 1)):
            self.assertEqual(at("numbers", entry), (("numbers", 0), "form"))

    def test_name_and_duplicate(self):
        for name in BAD_NAMES + RESERVED:
            self.assertEqual(at("numbers", (name, (), 5, 0)), (("numbers", 0), "name"))
        entry = ("a", ("Nobody",), 5, 0)
        self.assertEqual(at("numbers", entry, objects=(("a", "Thing"),)), (("numbers", 0), "duplicate"))
        self.assertEqual(at("numbers", entry, facts=(("a", ()),)), (("numbers", 0), "duplicate"))
        self.assertEqual(problem(numbers=(("a", (), 0, 1), entry)), (("numbers", 1), "duplicate"))

    def test_count_kind_range(self):
        self.assertEqual(at("numbers", ("n", ("Nobody",) * 5, 5, 0)), (("numbers", 0), "count"))
        self.assertEqual(at("numbers", ("n", ("Nobody",), 5, 0)), (("numbers", 0), "kind"))
        self.assertEqual(at("numbers", ("n", (), 5, 4)), (("numbers", 0), "range"))

    def test_bounds(self):
        for low, high in ((0, 0), (0, 200), (-1000000, -999800), (999800, 1000000), (1000000, 1000000)):
            self.assertIsNone(at("numbers", ("n", (), low, high)))
        for low, high in ((0, 201), (1, 0), (-1000001, -1000000), (1000000, 1000001), (-1000000, 1000000)):
            self.assertEqual(at("numbers", ("n", (), low, high)), (("numbers", 0), "range"))


class ResourcesTest(unittest.TestCase):
    def test_form(self):
        for entry in (None, ("r", ()), ("r", (), True), ("r", (), "1"), ("r", [], 1), ("r", (), 1, 1), ["r", (), 1]):
            self.assertEqual(at("resources", entry), (("resources", 0), "form"))

    def test_name_and_duplicate(self):
        for name in BAD_NAMES:
            self.assertEqual(at("resources", (name, (), 0)), (("resources", 0), "name"))
        for name in RESERVED:
            self.assertIsNone(at("resources", (name, (), 1)))
        same = ("a", (), 1)
        self.assertIsNone(at("resources", same, objects=(("a", "Thing"),)))
        self.assertIsNone(at("resources", same, facts=(("a", ()),)))
        self.assertIsNone(at("resources", same, numbers=(("a", (), 0, 1),)))
        self.assertEqual(problem(resources=(same, ("a", ("Nobody",), 0))), (("resources", 1), "duplicate"))

    def test_count_kind_range(self):
        self.assertEqual(at("resources", ("r", ("Nobody",) * 5, 0)), (("resources", 0), "count"))
        self.assertEqual(at("resources", ("r", ("Nobody",), 0)), (("resources", 0), "kind"))
        for capacity in (1, 1000000):
            self.assertIsNone(at("resources", ("r", (), capacity)))
        for capacity in (0, -1, 1000001):
            self.assertEqual(at("resources", ("r", (), capacity)), (("resources", 0), "range"))


if __name__ == "__main__":
    unittest.main()

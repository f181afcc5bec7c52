"""Points 12, 14, 16, 17 and 18: actions, the start and the goal."""

import unittest

from samples import FALSE, KINDS, OBJECTS, ONE, TRUE, action, fact, number, problem, whole

BASE = {
    "kinds": KINDS,
    "objects": OBJECTS,
    "facts": (("at", ("Truck", "Place")), ("open", ())),
    "numbers": (("coins", (), 0, 9), ("fuel", ("Truck",), -2, 5)),
    "resources": (("crew", (), 3), ("dock", ("Place",), 2)),
}


def of_actions(*actions):
    return problem(**BASE, actions=actions)


def of_item(**items):
    return of_actions(action(**items))


class EntryTest(unittest.TestCase):
    def test_form(self):
        good = action("a")
        for entry in (None, (), good[:6], good + (1,), list(good), (1,) + good[1:], (None,) + good[1:]):
            self.assertEqual(of_actions(entry), (("actions", 0), "form"))

    def test_name_and_duplicate(self):
        self.assertIsNone(of_actions(action("a" * 24), action("true"), action("at"), action("home")))
        for name in ("", "A", "?a", "a-b", "a" * 25):
            self.assertEqual(of_actions(action(name, None)), (("actions", 0), "name"))
        self.assertEqual(of_actions(action("a"), action("a", None)), (("actions", 1), "duplicate"))

    def test_items_in_order(self):
        bad = {"parameters": None, "condition": None, "effects": None, "cost": None, "time": None, "uses": None}
        good = {"parameters": (), "condition": TRUE, "effects": (), "cost": ONE, "time": ONE, "uses": ()}
        for item in list(bad):
            self.assertEqual(of_actions(action("ok"), action("a", **bad)), (("actions", 1, item), "form"))
            bad[item] = good[item]
        self.assertIsNone(of_item(**bad))

    def test_each_entry_completely(self):
        self.assertEqual(of_actions(action("a", uses=None), None), (("actions", 0, "uses"), "form"))


class ParametersTest(unittest.TestCase):
    def of(self, *parameters):
        found = of_item(parameters=tuple(parameters))
        if found is None:
            return None
        self.assertEqual(found[0], ("actions", 0, "parameters"))
        return found[1]

    def test_form(self):
        self.assertEqual(of_item(parameters=[])[1], "form")
        for pair in (None, ("?x",), ("?x", "Truck", "Truck"), ["?x", "Truck"], ("?x", 1), (1, "Truck")):
            self.assertEqual(self.of(("x", "Nobody"), pair), "form")

    def test_count(self):
        pairs = [(f"?x{k}", "Truck") for k in range(4)]
        self.assertIsNone(self.of(*pairs))
        self.assertEqual(self.of(("x", "Nobody"), *pairs), "count")

    def test_name(self):
        self.assertIsNone(self.of(("?" + "a" * 24, "Truck")))
        self.assertIsNone(self.of(("?true", "Truck")))
        for name in ("x", "xy", "a?b", "?", "", "?X", "??x", "?1", "?" + "a" * 25, "? x"):
            self.assertEqual(self.of((name, "Nobody")), "name")

    def test_duplicate_and_kind(self):
        self.assertEqual(self.of(("?x", "Truck"), ("?x", "Nobody")), "duplicate")
        self.assertEqual(self.of(("?x", "Nobody"), ("?x", "Truck")), "kind")
        self.assertEqual(self.of(("?x", "Nobody"), ("y", "Truck")), "kind")
        self.assertIsNone(self.of(("?x", "Thing"), ("?y", "Van")))


class ScopeTest(unittest.TestCase):
    def test_parameters_are_in_scope_everywhere(self):
        pairs = (("?t", "Truck"), ("?p", "Place"))
        self.assertIsNone(of_item(parameters=pairs, condition=fact("at", "?t", "?p"),
                                  effects=(("make", "at", ("?t", "?p")),), cost=number("fuel", "?t"),
                                  time=number("fuel", "?t"), uses=(("dock", ("?p",), 1),)))

    def test_parameters_are_not_declared_again(self):
        inner = ("all", (("?t", "Truck"),), TRUE)
        self.assertEqual(of_item(parameters=(("?t", "Truck"),), condition=inner),
                         (("actions", 0, "condition"), "duplicate"))
        self.assertEqual(of_item(parameters=(("?t", "Truck"),), effects=(("each", (("?t", "Truck"),), ()),)),
                         (("actions", 0, "effects"), "duplicate"))

    def test_each_reaches_its_own_effects_only(self):
        each = ("each", (("?t", "Truck"),), (("make", "at", ("?t", "home")),))
        self.assertIsNone(of_item(effects=(each, each)))
        self.assertEqual(of_item(effects=(each, ("make", "at", ("?t", "home")))),
                         (("actions", 0, "effects"), "unknown"))

    def test_parameters_end_with_their_action(self):
        self.assertEqual(of_actions(action("a", (("?t", "Truck"),)), action("b", cost=number("fuel", "?t"))),
                         (("actions", 1, "cost"), "unknown"))
        self.assertEqual(problem(**BASE, actions=(action("a", (("?t", "Truck"),)),), goal=fact("at", "?t", "home")),
                         (("goal",), "unknown"))

    def test_kinds_below(self):
        for kind, why in (("Van", None), ("Truck", None), ("Thing", "kind"), ("Place", "kind")):
            found = of_item(parameters=(("?t", kind),), condition=fact("at", "?t", "home"))
            self.assertEqual(found and found[1], why)


class EffectsTest(unittest.TestCase):
    def of(self, *effects):
        found = of_item(effects=tuple(effects))
        if found is None:
            return None
        self.assertEqual(found[0], ("actions", 0, "effects"))
        return found[1]

    def test_every_form(self):
        self.assertIsNone(self.of(
            ("make", "open", ()), ("unmake", "at", ("red", "home")), ("set", "coins", (), number("coins")),
            ("add", "fuel", ("old",), whole(-3)), ("take", "coins", (), ("plus", ())),
            ("when", fact("open"), ()), ("when", TRUE, (("make", "open", ()),)),
            ("each", (("?t", "Truck"), ("?p", "Place")), (("make", "at", ("?t", "?p")),)),
        ))

    def test_wrong_forms(self):
        self.assertEqual(of_item(effects=[("make", "open", ())]), (("actions", 0, "effects"), "form"))
        for effect in (None, (), "make", ("make",), ("make", "open"), ("make", "open", (), 1), ("make", "open", []),
                       ("make", 1, ()), ("make", "open", (1,)), ("set", "coins", ()), ("set", "coins", (), ONE, ONE),
                       ("when", TRUE), ("when", TRUE, []), ("when", TRUE, (), ()), ("each", (), [], ()),
                       ("each", [], ()), ("each", (("?x",),), ()), ("each", (("?x", "Truck"),), []), ("fact", "open", ()),
                       ["make", "open", ()], ("MAKE", "open", ()), (["make"], "open", ()), ("true",), ONE):
            self.assertEqual(self.of(effect), "form", effect)

    def test_wrong_forms_inside(self):
        self.assertEqual(self.of(("set", "coins", (), TRUE)), "form")
        self.assertEqual(self.of(("when", ONE, ())), "form")
        self.assertEqual(self.of(("when", TRUE, (TRUE,))), "form")
        self.assertEqual(self.of(("each", (("?x", "Truck"),), (None,))), "form")

    def test_names_and_arguments(self):
        self.assertEqual(self.of(("make", "coins", ())), "unknown")
        self.assertEqual(self.of(("set", "open", (), None)), "unknown")
        self.assertEqual(self.of(("add", "fuel", (), None)), "count")
        self.assertEqual(self.of(("take", "fuel", ("nobody",), None)), "unknown")
        self.assertEqual(self.of(("take", "fuel", ("home",), None)), "kind")
        self.assertEqual(self.of(("unmake", "at", ("home", "nobody"))), "kind")
        self.assertEqual(self.of(("unmake", "at", ("red", "nobody"))), "unknown")
        self.assertEqual(self.of(("unmake", "at", ("red", "old"))), "kind")
        self.assertEqual(self.of(("set", "coins", (), None)), "form")

    def test_variables_of_each(self):
        self.assertEqual(self.of(("each", (), (None,))), "count")
        five = tuple((f"?x{k}", "Truck") for k in range(5))
        self.assertEqual(self.of(("each", five, ())), "count")
        self.assertIsNone(self.of(("each", five[:4], ())))
        self.assertEqual(self.of(("each", (("x", "Nobody"),), ())), "name")
        self.assertEqual(self.of(("each", (("?x", "Truck"), ("?x", "Nobody")), ())), "duplicate")
        self.assertEqual(self.of(("each", (("?x", "Nobody"),), (None,))), "kind")


class UsesTest(unittest.TestCase):
    def of(self, *uses):
        found = of_item(parameters=(("?p", "Place"),), uses=tuple(uses))
        if found is None:
            return None
        self.assertEqual(found[0], ("actions", 0, "uses"))
        return found[1]

    def test_uses(self):
        crew = ("crew", (), 1)
        self.assertIsNone(self.of(crew, crew, crew, ("dock", ("?p",), 1000000)))
        self.assertEqual(self.of(crew, crew, crew, crew, None), "many")
        self.assertEqual(of_item(uses=[])[1], "form")
        for use in (None, ("crew", ()), ("crew", (), True), ("crew", [], 1), (1, (), 1), ["crew", (), 1],
                    ("crew", (), 1, 1), ("crew", (1,), 1), ("crew", (), "1")):
            self.assertEqual(self.of(use), "form")
        self.assertEqual(self.of(("open", (), 0)), "unknown")
        self.assertEqual(self.of(("dock", (), 0)), "count")
        self.assertEqual(self.of(("dock", ("?q",), 0)), "unknown")
        self.assertEqual(self.of(("dock", ("red",), 0)), "kind")
        for amount in (0, -1, 1000001):
            self.assertEqual(self.of(("dock", ("?p",), amount)), "range")
        self.assertEqual(self.of(("crew", (), 0), None), "range")
        self.assertEqual(self.of(None, ("crew", (), 0)), "form")
        # Every use is checked, not the first one alone.
        self.assertEqual(self.of(crew, ("crew", (), 0)), "range")
        self.assertEqual(self.of(crew, crew, None), "form")
        self.assertEqual(self.of(crew, crew, crew, ("dock", ("?q",), 1)), "unknown")

    def test_more_than_the_capacity_may_be_used(self):
        self.assertIsNone(self.of(("crew", (), 4)))


class StartTest(unittest.TestCase):
    def of(self, start, **more):
        return problem(**BASE, start=start, **more)

    def test_form(self):
        for start in (None, (), ((),), ((), (), ()), [(), ()], ([], ()), ((), []), ((), None)):
            self.assertEqual(self.of(start, goal=None), (("start",), "form"))

    def test_facts(self):
        at_home = ("at", ("red", "home"))
        self.assertIsNone(self.of(((at_home, ("open", ())), ())))
        for entry in (None, ("open",), ("open", (), 1), ["open", ()], (1, ()), ("open", []), ("open", (1,))):
            self.assertEqual(self.of(((at_home, entry), (None,))), (("start", 0, 1), "form"))
        for entry, why in ((("coins", ()), "unknown"), (("at", ("red",)), "count"), (("at", ("?t", "home")), "unknown"),
                           (("at", ("home", "nobody")), "kind"), (("at", ("red", "old")), "kind"),
                           (at_home, "duplicate")):
            self.assertEqual(self.of(((at_home, entry), (None,))), (("start", 0, 1), why))

    def test_numbers(self):
        coins = ("coins", (), 9)
        self.assertIsNone(self.of(((), (coins, ("fuel", ("red",), -2), ("fuel", ("old",), 5)))))
        for entry in (None, ("coins", ()), ("coins", (), True), ("coins", [], 1), (1, (), 1), ["coins", (), 1],
                      ("coins", (), 1, 1)):
            self.assertEqual(self.of(((), (coins, entry))), (("start", 1, 1), "form"))
        for entry, why in ((("open", (), 1), "unknown"), (("fuel", (), 99), "count"), (("fuel", ("?t",), 99), "unknown"),
                           (("fuel", ("home",), 99), "kind"), (("coins", (), 99), "duplicate"),
                           (("fuel", ("red",), 6), "range"), (("fuel", ("red",), -3), "range")):
            self.assertEqual(self.of(((), (coins, entry)), goal=None), (("start", 1, 1), why))


class GoalTest(unittest.TestCase):
    def test_goal(self):
        self.assertIsNone(problem(**BASE, goal=FALSE))
        self.assertIsNone(problem(**BASE, goal=("all", (("?t", "Truck"),), fact("at", "?t", "home"))))
        self.assertEqual(problem(**BASE, goal=[]), (("goal",), "form"))
        self.assertEqual(problem(**BASE, goal=fact("at", "?t", "home")), (("goal",), "unknown"))


if __name__ == "__main__":
    unittest.main()

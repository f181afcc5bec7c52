"""Points 13 to 16 and 18: the forms, the scope, the nodes, the depth and the instances of formulas and amounts."""

import unittest

from samples import FALSE, ONE, TRUE, action, fact, number, problem, whole, world
from sureplan.tasks import Task

X = (("?x", "Thing"),)


def why_of(goal, task_parts=None):
    parts = task_parts or PARTS
    found = problem(**parts, goal=goal)
    if found is None:
        return None
    assert found[0] == ("goal",)
    return found[1]


PARTS = {
    "kinds": (("Place", "Thing"), ("Truck", "Thing"), ("Van", "Truck"), ("Ghost", "Thing")),
    "objects": (("home", "Place"), ("shop", "Place"), ("red", "Van"), ("old", "Truck")),
    "facts": (("at", ("Truck", "Place")), ("open", ())),
    "numbers": (("coins", (), 0, 9), ("fuel", ("Truck",), -2, 5)),
}


class FormulaFormsTest(unittest.TestCase):
    def test_every_form(self):
        for goal in (TRUE, FALSE, fact("open"), ("not", TRUE), ("and", ()), ("and", (TRUE, FALSE)), ("or", ()),
                     ("or", (TRUE,)), ("implies", TRUE, FALSE), ("all", X, TRUE), ("some", X, FALSE),
                     ("same", "home", "red"), ("le", ONE, ONE), ("lt", ONE, ONE), ("ge", ONE, ONE), ("gt", ONE, ONE),
                     ("eq", ONE, ONE), fact("at", "old", "shop")):
            self.assertIsNone(why_of(goal), goal)

    def test_wrong_forms(self):
        for goal in (None, (), "true", ["true"], ("true", 1), ("maybe",), (1,), ((),), ("fact", "open"),
                     ("fact", "open", []), ("fact", 1, ()), ("fact", "open", (1,)), ("fact", "open", (), ()),
                     ("not",), ("not", TRUE, TRUE), ("and",), ("and", TRUE, TRUE), ("and", [TRUE]), ("or", None),
                     ("implies", TRUE), ("implies", (TRUE, TRUE)), ("all", X), ("all", [], TRUE),
                     ("all", (("?x",),), TRUE), ("all", (["?x", "Thing"],), TRUE), ("all", (("?x", 1),), TRUE),
                     ("some", X, TRUE, TRUE), ("same", "home"), ("same", "home", 1), ("same", ("home", "red")),
                     ("le", ONE), ("eq", ONE, ONE, ONE), ("int", 1), ("make", "open", ()), True, 1):
            self.assertEqual(why_of(goal), "form", goal)

    def test_wrong_forms_inside(self):
        for wrong in (None, ONE, ("make", "open", ())):
            for goal in (("not", wrong), ("and", (wrong,)), ("and", (TRUE, wrong)), ("or", (TRUE, TRUE, wrong)),
                         ("implies", wrong, TRUE), ("implies", TRUE, wrong), ("all", X, wrong), ("some", X, wrong)):
                self.assertEqual(why_of(goal), "form", goal)
        for wrong in (None, TRUE, ("make", "open", ())):
            for word in ("le", "lt", "ge", "gt", "eq"):
                self.assertEqual(why_of((word, wrong, ONE)), "form")
                self.assertEqual(why_of((word, ONE, wrong)), "form")


class AmountFormsTest(unittest.TestCase):
    def of(self, amount):
        return why_of(("le", amount, ONE))

    def test_every_form(self):
        for amount in (whole(0), number("coins"), number("fuel", "red"), ("plus", ()), ("plus", (ONE, ONE, ONE)),
                       ("minus", ONE, ONE), ("times", 0, ONE), ("times", -5, number("coins"))):
            self.assertIsNone(self.of(amount))

    def test_wrong_forms(self):
        for amount in (None, 1, (), ("int",), ("int", True), ("int", "1"), ("int", 1, 1), ("int", None),
                       ("number", "coins"), ("number", 1, ()), ("number", "coins", []), ("number", "coins", (None,)),
                       ("plus",), ("plus", [ONE]), ("plus", ONE, ONE), ("minus", ONE), ("minus", ONE, ONE, ONE),
                       ("times", ONE, ONE), ("times", True, ONE), ("times", 1), ("times", 1, ONE, ONE), ["int", 1],
                       ("div", ONE, ONE)):
            self.assertEqual(self.of(amount), "form", amount)

    def test_wrong_forms_inside(self):
        for amount in (("plus", (None,)), ("plus", (ONE, TRUE)), ("minus", TRUE, ONE), ("minus", ONE, TRUE),
                       ("times", 1, TRUE)):
            self.assertEqual(self.of(amount), "form", amount)

    def test_integers(self):
        for n in (-1000000, 0, 1000000):
            self.assertIsNone(self.of(whole(n)))
            self.assertIsNone(self.of(("times", n, ONE)))
        for n in (-1000001, 1000001, 10 ** 30):
            self.assertEqual(self.of(whole(n)), "range")
            self.assertEqual(self.of(("times", n, None)), "range")

    def test_numbers(self):
        self.assertEqual(self.of(number("open")), "unknown")
        self.assertEqual(self.of(number("coins", "red")), "count")
        self.assertEqual(self.of(number("fuel", "nobody")), "unknown")
        self.assertEqual(self.of(number("fuel", "home")), "kind")


class ArgumentsTest(unittest.TestCase):
    def test_facts(self):
        self.assertEqual(why_of(fact("coins")), "unknown")
        self.assertEqual(why_of(fact("home")), "unknown")
        self.assertEqual(why_of(fact("at", "nobody")), "count")
        self.assertEqual(why_of(fact("at", "nobody", "red")), "unknown")
        self.assertEqual(why_of(fact("at", "home", "nobody")), "kind")
        self.assertEqual(why_of(fact("at", "red", "?x")), "unknown")
        self.assertIsNone(why_of(fact("at", "red", "home")))

    def test_same(self):
        self.assertEqual(why_of(("same", "nobody", "home")), "unknown")
        self.assertEqual(why_of(("same", "home", "?x")), "unknown")
        self.assertIsNone(why_of(("all", X, ("same", "?x", "home"))))
        self.assertEqual(why_of(("same", "open", "home")), "unknown")

    def test_kinds_of_variables(self):
        for kind, why in (("Truck", None), ("Van", None), ("Thing", "kind"), ("Place", "kind"), ("Ghost", "kind")):
            self.assertEqual(why_of(("some", (("?x", kind),), fact("at", "?x", "home"))), why)

    def test_variables(self):
        for word in ("all", "some"):
            self.assertEqual(why_of((word, (), None)), "count")
            five = tuple((f"?x{k}", "Nobody") for k in range(5))
            self.assertEqual(why_of((word, five, None)), "count")
            self.assertIsNone(why_of((word, tuple((f"?x{k}", "Van") for k in range(4)), TRUE)))
            for name in ("x", "home", "?", "?X", "?" + "a" * 25):
                self.assertEqual(why_of((word, ((name, "Nobody"),), None)), "name")
            self.assertEqual(why_of((word, (("?x", "Thing"), ("?x", "Nobody")), None)), "duplicate")
            self.assertEqual(why_of((word, (("?x", "Nobody"), ("x", "Thing")), None)), "kind")
            self.assertEqual(why_of((word, X, (word, X, None))), "duplicate")
            self.assertEqual(why_of((word, X, None)), "form")
        self.assertIsNone(why_of(("and", (("all", X, TRUE), ("some", X, TRUE)))))
        self.assertEqual(why_of(("and", (("all", X, TRUE), ("same", "?x", "?x")))), "unknown")
        self.assertEqual(why_of(("implies", ("all", X, TRUE), ("same", "?x", "?x"))), "unknown")

    def test_a_node_before_the_nodes_inside_it(self):
        self.assertEqual(why_of(("not", ("and", (fact("nobody"), None)))), "unknown")
        self.assertEqual(why_of(("and", (None, fact("nobody")))), "form")
        self.assertEqual(why_of(("implies", fact("nobody"), None)), "unknown")
        self.assertEqual(why_of(("le", whole(1000001), None)), "range")
        self.assertEqual(why_of(("le", None, whole(1000001))), "form")
        self.assertEqual(why_of(("all", (("?x", "Nobody"),), None)), "kind")


def nested(depth, inner=TRUE):
    """A formula of this depth, if the inner one has depth 1."""
    for _ in range(depth - 1):
        inner = ("not", inner)
    return inner


class SizesTest(unittest.TestCase):
    def test_nodes(self):
        self.assertIsNone(why_of(("and", (TRUE,) * 199)))
        self.assertEqual(why_of(("and", (TRUE,) * 200)), "large")
        self.assertIsNone(why_of(("le", ("plus", (ONE,) * 197), ONE)))
        self.assertEqual(why_of(("le", ("plus", (ONE,) * 198), ONE)), "large")
        self.assertIsNone(why_of(("and", (("and", (TRUE,) * 98), ("not", ("or", (FALSE,) * 98))))))
        self.assertEqual(why_of(("and", (("and", (TRUE,) * 98), ("not", ("or", (FALSE,) * 99))))), "large")

    def test_large_is_found_at_its_place(self):
        self.assertEqual(why_of(("and", (TRUE,) * 198 + (None, TRUE))), "form")
        self.assertEqual(why_of(("and", (TRUE,) * 199 + (None,))), "large")
        # the 201st node is also too deep: "large" comes first
        self.assertEqual(why_of(("and", (TRUE,) * 188 + (nested(13),))), "large")
        self.assertEqual(why_of(("and", (TRUE,) * 187 + (nested(12),))), "deep")

    def test_depth(self):
        self.assertIsNone(why_of(nested(12)))
        self.assertEqual(why_of(nested(13)), "deep")
        self.assertEqual(why_of(nested(13, None)), "deep")
        self.assertEqual(why_of(nested(12, None)), "form")
        self.assertIsNone(why_of(nested(11, ("le", ONE, ONE))))
        self.assertEqual(why_of(nested(12, ("le", ONE, ONE))), "deep")
        self.assertIsNone(why_of(nested(12, ("all", X, ("and", ())))[1]))

    def test_very_deep_values_do_not_fail(self):
        deep = TRUE
        for _ in range(100000):
            deep = ("not", deep)
        self.assertEqual(why_of(deep), "deep")
        self.assertFalse(world().is_formula(deep))
        while deep != TRUE:
            deep = deep[1]

    def test_effects_count_together(self):
        def of(*effects):
            found = problem(**PARTS, actions=(action(effects=effects),))
            return found and found[1]
        make = ("make", "open", ())
        self.assertIsNone(of(*(make,) * 200))
        self.assertEqual(of(*(make,) * 201), "large")
        self.assertEqual(of(*(make,) * 199 + (("set", "coins", (), ONE),)), "large")
        self.assertIsNone(of(("when", nested(11), (make,)), ("when", nested(11), ())))
        self.assertEqual(of(make, ("when", nested(12), ())), "deep")
        deep = make
        for _ in range(11):
            deep = ("when", TRUE, (deep,))
        self.assertIsNone(of(deep, deep))
        self.assertEqual(of(("when", TRUE, (deep,))), "deep")

    def test_costs_and_times(self):
        for item in ("cost", "time"):
            def of(amount):
                found = problem(actions=(action(**{item: amount}),))
                assert found is None or found[0] == ("actions", 0, item)
                return found and found[1]
            self.assertIsNone(of(("plus", (ONE,) * 199)))
            self.assertEqual(of(("plus", (ONE,) * 200)), "large")
            amount = ONE
            for _ in range(11):
                amount = ("times", 2, amount)
            self.assertIsNone(of(amount))
            self.assertEqual(of(("times", 2, amount)), "deep")
            self.assertEqual(of(TRUE), "form")

    def test_conditions(self):
        found = problem(actions=(action(condition=("and", (TRUE,) * 200)),))
        self.assertEqual(found, (("actions", 0, "condition"), "large"))


class InstancesTest(unittest.TestCase):
    """10 objects, so that instances are easily multiplied."""

    parts = {
        "kinds": (("Empty", "Thing"), ("Two", "Thing")),
        "objects": tuple((f"o{k}", "Thing") for k in range(8)) + (("t0", "Two"), ("t1", "Two")),
        "facts": (("f", ()),),
        "numbers": (("n", (), 0, 1),),
    }

    def of(self, goal):
        return why_of(goal, self.parts)

    def times(self, many, formula):
        """Repeats a formula 10, 100 or 1000 times."""
        pairs = tuple((f"?y{k}", "Thing") for k in range(len(str(many)) - 1))
        return ("all", pairs, formula)

    def exactly(self, formula, counted):
        """Tells if the formula, repeated 1000 times, has this many instances in a thousand."""
        rest = ("and", (TRUE,) * (2 - counted))
        self.assertIsNone(self.of(self.times(1000, ("and", (formula, rest)))), formula)
        over = ("and", (self.times(1000, ("and", (formula, rest))), TRUE))
        self.assertEqual(self.of(over), "wide", formula)

    def test_two_thousand_and_one_more(self):
        self.assertIsNone(self.of(self.times(1000, ("and", (TRUE, TRUE)))))
        self.assertEqual(self.of(("and", (self.times(1000, ("and", (TRUE, TRUE))), TRUE))), "wide")

    def test_what_counts(self):
        for formula in (TRUE, FALSE, ("fact", "f", ()), ("same", "o1", "o2"), ("le", ONE, ONE), ("lt", ONE, ONE),
                        ("ge", ONE, ONE), ("gt", ("plus", (ONE, ONE, ONE)), number("n")), ("not", TRUE),
                        ("and", (TRUE,)), ("or", (TRUE,)), ("implies", TRUE, ("and", ())),
                        ("all", (("?z", "Empty"),), TRUE), ("some", (("?z", "Empty"), ("?u", "Empty")), TRUE)):
            self.exactly(formula, 1)
        for formula in (("eq", ONE, ONE), ("not", ("eq", ONE, ONE)), ("and", (TRUE, TRUE)), ("or", (TRUE, FALSE)),
                        ("implies", TRUE, TRUE), ("all", (("?z", "Two"),), TRUE), ("some", (("?z", "Two"),), TRUE),
                        ("all", (("?z", "Two"), ("?u", "Empty")), TRUE), ("all", (("?z", "Empty"),), ("eq", ONE, ONE))):
            self.exactly(formula, 2)
        for formula in (("and", ()), ("or", ()), ("not", ("and", ())), ("implies", ("or", ()), ("and", ())),
                        ("all", (("?z", "Thing"), ("?u", "Thing"), ("?v", "Thing")), ("or", ()))):
            self.exactly(formula, 0)

    def test_bare_formulas_are_never_wide(self):
        four = tuple((f"?x{k}", "Thing") for k in range(4))
        other = tuple((f"?y{k}", "Thing") for k in range(4))
        third = tuple((f"?z{k}", "Thing") for k in range(4))
        bare = ("all", four, ("some", other, ("all", third, ("and", ()))))
        self.assertIsNone(self.of(bare))

    def test_effects(self):
        def of(*effects):
            found = problem(**self.parts, actions=(action(effects=effects),))
            return found and found[1]
        three = tuple((f"?y{k}", "Thing") for k in range(3))
        for effect in (("make", "f", ()), ("unmake", "f", ()), ("set", "n", (), ONE), ("add", "n", (), ("plus", ())),
                       ("take", "n", (), ONE), ("when", TRUE, ()), ("when", ("and", ()), (("make", "f", ()),)),
                       ("each", (("?z", "Empty"),), (("make", "f", ()),))):
            thousand = ("each", three, (effect,))
            self.assertIsNone(of(thousand, thousand), effect)
            self.assertEqual(of(thousand, thousand, ("make", "f", ())), "wide", effect)
        both = ("each", three, (("when", TRUE, (("make", "f", ()),)),))
        self.assertIsNone(of(both))
        self.assertEqual(of(both, ("make", "f", ())), "wide")
        self.assertEqual(of(("each", three, (("when", ("eq", ONE, ONE), ()), ("make", "f", ())))), "wide")
        self.assertIsNone(of(("each", three, (("when", ("or", ()), ()),)), both))

    def test_conditions_are_wide_and_amounts_never(self):
        goal = ("and", (self.times(1000, ("and", (TRUE, TRUE))), TRUE))
        self.assertEqual(problem(**self.parts, actions=(action(condition=goal),)),
                         (("actions", 0, "condition"), "wide"))
        # "wide" comes last
        self.assertEqual(self.of(("and", (goal, None))), "form")


class IsFormulaTest(unittest.TestCase):
    def test_formulas(self):
        task = world()
        for good in (TRUE, fact("at", "red", "home"), ("all", (("?x", "Truck"),), fact("at", "?x", "home"))):
            self.assertIs(task.is_formula(good), True)
        for bad in (None, [], (), {}, "true", True, 7, 1.5, ONE, fact("at", "?x", "home"), fact("nobody"),
                    ("and", (TRUE,) * 200), nested(13), {"a": 1}, b"true", set(), ([],), ({},), object()):
            self.assertIs(task.is_formula(bad), False)
        three = tuple((f"?y{k}", "Thing") for k in range(4))
        self.assertIs(task.is_formula(("all", three, ("and", (TRUE,) * 8))), False)
        self.assertIs(task.is_formula(("all", three, ("and", (TRUE,) * 7))), True)

    def test_amounts(self):
        task = world()
        for good in (ONE, number("coins"), ("plus", (ONE, number("fuel", "old")))):
            self.assertIs(task.is_amount(good), True)
        for bad in (None, [], (), {}, 5, True, TRUE, number("fuel", "?t"), number("nobody"), whole(1000001),
                    ("plus", (ONE,) * 200), ("int", 1.0), ([],)):
            self.assertIs(task.is_amount(bad), False)


if __name__ == "__main__":
    unittest.main()

"""Points 37 to 40, and sureplan/conditions.py."""

import random
import unittest

import boxoracle
import oracle
from boxoracle import states_in
from randoms import Draw
from samples import FALSE, ONE, TRUE, fact, number, whole
from sureplan.boxes import box_of_state
from sureplan.conditions import judged, linear_form, span_of
from sureplan.tasks import Task

FUEL = number("fuel")
NINE = Task(numbers=(("fuel", (), 0, 9),))
TWO = Task(kinds=(("Empty", "Thing"),), objects=(("a", "Thing"), ("b", "Thing")), facts=(("f", ("Thing",)), ("g", ())),
           numbers=(("m", (), -5, 5), ("n", (), 0, 9)))
M, N = number("m"), number("n")


class LinearFormTest(unittest.TestCase):
    def test_example_of_the_document(self):
        amount = ("minus", ("plus", (FUEL, FUEL)), whole(3))
        self.assertEqual(linear_form(NINE, amount), (-3, [2]))
        self.assertEqual(span_of(NINE, amount, ((), ((1, 4),))), (-1, 5))

    def test_forms(self):
        for amount, expected in (
                (whole(7), (7, [0, 0])), (M, (0, [1, 0])), (N, (0, [0, 1])), (("plus", ()), (0, [0, 0])),
                (("plus", (M, N, M, whole(2), whole(3))), (5, [2, 1])), (("minus", M, N), (0, [1, -1])),
                (("minus", whole(1), ("minus", N, whole(4))), (5, [0, -1])), (("times", 0, ("plus", (M, ONE))), (0, [0, 0])),
                (("times", -3, ("plus", (M, whole(2)))), (-6, [-3, 0])), (("minus", M, M), (0, [0, 0])),
                (("times", 2, ("times", -5, N)), (0, [0, -10])),
                (("minus", ("times", 2, M), ("plus", (M, N, M))), (0, [0, -1]))):
            self.assertEqual(linear_form(TWO, amount), expected)

    def test_the_factors_are_a_new_list(self):
        linear_form(TWO, M)[1].clear()
        self.assertEqual(linear_form(TWO, M), (0, [1, 0]))
        self.assertEqual(linear_form(Task(), ONE), (1, []))

    def test_spans(self):
        box = ((None,) * 3, ((-2, 3), (4, 6)))
        for amount, expected in ((whole(7), (7, 7)), (M, (-2, 3)), (("plus", (M, N)), (2, 9)), (("minus", M, N), (-8, -1)),
                                 (("times", -2, M), (-6, 4)), (("minus", M, M), (0, 0)), (("plus", ()), (0, 0)),
                                 (("times", 0, N), (0, 0)), (("minus", whole(1), N), (-5, -3)),
                                 (("minus", ("plus", (M, N)), M), (4, 6))):
            self.assertEqual(span_of(TWO, amount, box), expected)

    def test_values_beyond_the_range(self):
        self.assertEqual(span_of(NINE, FUEL, ((), ((-50, 50),))), (-50, 50))


class InequalitiesTest(unittest.TestCase):
    box = ((), ((1, 4),))

    def test_example_of_the_document(self):
        self.assertEqual(judged(NINE, ("le", FUEL, whole(4)), self.box), "sure")
        self.assertEqual(judged(NINE, ("gt", FUEL, whole(4)), self.box), "never")
        self.assertEqual(judged(NINE, ("ge", FUEL, whole(2)), self.box), "open")
        self.assertEqual(judged(NINE, ("lt", FUEL, FUEL), self.box), "never")

    def test_edges(self):
        for word, edges in (("le", {0: "never", 1: "open", 3: "open", 4: "sure"}),
                            ("lt", {1: "never", 2: "open", 4: "open", 5: "sure"}),
                            ("ge", {1: "sure", 2: "open", 4: "open", 5: "never"}),
                            ("gt", {0: "sure", 1: "open", 3: "open", 4: "never"}),
                            ("eq", {0: "never", 1: "open", 4: "open", 5: "never"})):
            for n, expected in edges.items():
                self.assertEqual(judged(NINE, (word, FUEL, whole(n)), self.box), expected, (word, n))

    def test_equal(self):
        self.assertEqual(judged(NINE, ("eq", FUEL, whole(3)), ((), ((3, 3),))), "sure")
        self.assertEqual(judged(NINE, ("eq", FUEL, FUEL), self.box), "sure")
        # both parts are open, though no value is in between
        self.assertEqual(judged(NINE, ("eq", ("times", 2, FUEL), whole(5)), self.box), "open")
        self.assertEqual(judged(NINE, ("eq", ("times", 2, FUEL), ("plus", (FUEL, FUEL, ONE))), self.box), "never")

    def test_factors_cancel(self):
        twice = ("plus", (FUEL, FUEL))
        self.assertEqual(judged(NINE, ("ge", twice, ("times", 2, FUEL)), self.box), "sure")
        self.assertEqual(judged(NINE, ("lt", twice, ("times", 2, FUEL)), self.box), "never")
        self.assertEqual(judged(NINE, ("le", ("minus", twice, FUEL), whole(4)), self.box), "sure")


class ConnectivesTest(unittest.TestCase):
    """f(a) is sure, f(b) is never and g is open in the box."""

    box = ((True, False, None), ((0, 0), (0, 9)))
    named = {"sure": fact("f", "a"), "never": fact("f", "b"), "open": fact("g")}

    def judged(self, formula):
        return judged(TWO, formula, self.box)

    def test_plain(self):
        self.assertEqual(self.judged(TRUE), "sure")
        self.assertEqual(self.judged(FALSE), "never")
        self.assertEqual(self.judged(("same", "a", "a")), "sure")
        self.assertEqual(self.judged(("same", "a", "b")), "never")
        for verdict, formula in self.named.items():
            self.assertEqual(self.judged(formula), verdict)

    def test_not(self):
        for verdict, expected in (("sure", "never"), ("never", "sure"), ("open", "open")):
            self.assertEqual(self.judged(("not", self.named[verdict])), expected)

    def test_two_parts(self):
        rank = ["never", "open", "sure"]
        for one, formula in self.named.items():
            for other, second in self.named.items():
                self.assertEqual(self.judged(("and", (formula, second))), min(one, other, key=rank.index))
                self.assertEqual(self.judged(("or", (formula, second))), max(one, other, key=rank.index))
                opposite = rank[2 - rank.index(one)]
                self.assertEqual(self.judged(("implies", formula, second)), max(opposite, other, key=rank.index))

    def test_no_parts(self):
        self.assertEqual(self.judged(("and", ())), "sure")
        self.assertEqual(self.judged(("or", ())), "never")

    def test_quantifiers(self):
        pairs = (("?x", "Thing"),)
        self.assertEqual(self.judged(("all", pairs, fact("f", "?x"))), "never")
        self.assertEqual(self.judged(("some", pairs, fact("f", "?x"))), "sure")
        self.assertEqual(self.judged(("all", pairs, ("or", (fact("f", "?x"), fact("g"))))), "open")
        for empty in ((("?x", "Empty"),), (("?y", "Thing"), ("?x", "Empty"))):
            self.assertEqual(self.judged(("all", empty, FALSE)), "sure")
            self.assertEqual(self.judged(("some", empty, TRUE)), "never")
            self.assertEqual(self.judged(("not", ("some", empty, fact("g")))), "sure")

    def test_parts_are_judged_apart(self):
        self.assertEqual(self.judged(("or", (fact("g"), ("not", fact("g"))))), "open")
        self.assertEqual(self.judged(("and", (fact("g"), ("not", fact("g"))))), "open")


class DrawnTest(unittest.TestCase):
    def test_against_the_document_and_against_all_states(self):
        draw = Draw(random.Random(12))
        seen = {}
        for _ in range(40):
            task = draw.task(0)
            for _ in range(10):
                box, formula, amount = draw.box(task), draw.formula(["a", "b"]), draw.amount(["a", "b"])
                verdict = judged(task, formula, box)
                seen[verdict] = True
                self.assertEqual(verdict, boxoracle.judged(task, formula, box))
                linear = boxoracle.form(task, amount)
                self.assertEqual(linear_form(task, amount), (linear[0], linear[1:]))
                low, high = span_of(task, amount, box)
                self.assertEqual((low, high), boxoracle.ends(linear, box))
                for state in list(states_in(box))[::7]:
                    holds = oracle.true_in(task, formula, state)
                    self.assertIn(verdict, ("open", "sure") if holds else ("open", "never"))
                    self.assertTrue(low <= oracle.value(task, amount, state) <= high)
                    self.assertEqual(judged(task, formula, box_of_state(state)), "sure" if holds else "never")
        self.assertEqual(sorted(seen), ["never", "open", "sure"])


if __name__ == "__main__":
    unittest.main()

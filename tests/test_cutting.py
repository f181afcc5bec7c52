"""Points 41 and 42, and sureplan/cutting.py."""

import random
import unittest

import boxoracle
import oracle
from boxoracle import states_in
from randoms import Draw
from samples import FALSE, ONE, TRUE, fact, number, whole
from sureplan.boxes import in_box, lies_in
from sureplan.cutting import cut, remainder
from sureplan.tasks import Task

FUEL = number("fuel")
NINE = Task(numbers=(("fuel", (), 0, 9),))
TASK = Task(kinds=(("Empty", "Thing"),), objects=(("a", "Thing"), ("b", "Thing")), facts=(("f", ("Thing",)), ("g", ())),
            numbers=(("m", (), -20, 20), ("n", (), 0, 9)))
M, N = number("m"), number("n")
OPEN = ((None, None, None), ((-20, 20), (0, 9)))
A, B, G = fact("f", "a"), fact("f", "b"), fact("g")


class ExampleTest(unittest.TestCase):
    def test_examples_of_the_document(self):
        box = ((), ((0, 9),))
        twice = ("ge", ("times", 2, FUEL), whole(5))
        self.assertEqual(cut(NINE, twice, box, True), ((), ((3, 9),)))
        self.assertEqual(cut(NINE, twice, box, False), ((), ((0, 2),)))
        self.assertEqual(cut(NINE, ("eq", FUEL, whole(4)), box, True), ((), ((4, 4),)))
        self.assertEqual(cut(NINE, ("eq", FUEL, whole(4)), box, False), box)


class PlainTest(unittest.TestCase):
    def test_constants(self):
        for formula, holds in ((TRUE, True), (FALSE, False), (("same", "a", "a"), True), (("same", "a", "b"), False)):
            self.assertEqual(cut(TASK, formula, OPEN, holds), OPEN)
            self.assertIsNone(cut(TASK, formula, OPEN, not holds))

    def test_facts(self):
        for wanted in (True, False):
            left = cut(TASK, B, OPEN, wanted)
            self.assertEqual(left, ((None, wanted, None), OPEN[1]))
            self.assertIs(left[0][1], wanted)
            self.assertEqual(cut(TASK, B, left, wanted), left)
            self.assertIsNone(cut(TASK, B, left, not wanted))
            self.assertEqual(cut(TASK, ("not", B), OPEN, wanted), ((None, not wanted, None), OPEN[1]))
            self.assertEqual(cut(TASK, ("not", ("not", B)), OPEN, wanted), left)


def after(formula, wanted, span=(-20, 20)):
    """The span of m that is left, or None."""
    box = ((None, None, None), (span, (0, 9)))
    left = cut(TASK, formula, box, wanted)
    if left is None:
        return None
    assert (left[0], left[1][1]) == (box[0], (0, 9))
    return left[1][0]


class OneNumberTest(unittest.TestCase):
    def test_each_comparison(self):
        for word, wanted, unwanted in (("le", (-20, 3), (4, 20)), ("lt", (-20, 2), (3, 20)), ("ge", (3, 20), (-20, 2)),
                                       ("gt", (4, 20), (-20, 3))):
            self.assertEqual(after((word, M, whole(3)), True), wanted)
            self.assertEqual(after((word, M, whole(3)), False), unwanted)

    def test_down_to_one_value_and_to_none(self):
        self.assertEqual(after(("le", M, whole(-20)), True), (-20, -20))
        self.assertIsNone(after(("lt", M, whole(-20)), True))
        self.assertEqual(after(("ge", M, whole(20)), True), (20, 20))
        self.assertIsNone(after(("gt", M, whole(20)), True))
        self.assertIsNone(after(("ge", M, whole(-20)), False))
        self.assertEqual(after(("ge", M, whole(-19)), False), (-20, -20))
        self.assertEqual(after(("eq", M, whole(7)), True), (7, 7))
        self.assertIsNone(after(("eq", M, whole(21)), True))
        self.assertIsNone(after(("eq", ("times", 2, M), whole(7)), True))

    def test_division_with_a_remainder(self):
        for factor in (-7, -3, -2, -1, 1, 2, 3, 7):
            for n in range(-25, 26):
                for word in ("le", "lt", "ge", "gt"):
                    for wanted in (True, False):
                        formula = (word, ("times", factor, M), whole(n))
                        good = [v for v in range(-6, 9) if oracle.true_in(TASK, formula, ((), (v, 0))) == wanted]
                        self.assertEqual(after(formula, wanted, (-6, 8)), (good[0], good[-1]) if good else None)

    def test_a_number_on_both_sides(self):
        self.assertEqual(after(("le", ("times", 3, M), ("plus", (M, whole(5)))), True), (-20, 2))
        self.assertEqual(after(("ge", ("minus", M, ONE), ("times", 4, M)), True), (-20, -1))
        self.assertEqual(after(("le", ("plus", (M, N)), ("plus", (N, whole(3)))), True), (-20, 3))

    def test_a_span_that_is_not_reduced(self):
        self.assertEqual(after(("le", M, whole(50)), True), (-20, 20))
        self.assertEqual(after(("ge", M, whole(-50)), True), (-20, 20))


class OtherInequalitiesTest(unittest.TestCase):
    def test_no_number(self):
        for formula, holds in ((("le", ONE, ONE), True), (("lt", ONE, ONE), False), (("lt", M, M), False),
                               (("eq", M, M), True), (("ge", ("times", 0, M), ("plus", ())), True)):
            self.assertEqual(cut(TASK, formula, OPEN, holds), OPEN)
            self.assertIsNone(cut(TASK, formula, OPEN, not holds))

    def test_several_numbers(self):
        both = ("plus", (M, N))
        self.assertEqual(cut(TASK, ("le", both, whole(-20)), OPEN, True), OPEN)
        self.assertIsNone(cut(TASK, ("lt", both, whole(-20)), OPEN, True))
        self.assertEqual(cut(TASK, ("ge", both, whole(29)), OPEN, True), OPEN)
        self.assertIsNone(cut(TASK, ("gt", both, whole(29)), OPEN, True))
        self.assertIsNone(cut(TASK, ("le", both, whole(29)), OPEN, False))
        self.assertEqual(cut(TASK, ("lt", both, whole(29)), OPEN, False), OPEN)
        self.assertEqual(cut(TASK, ("le", M, N), OPEN, False), OPEN)


class ConjunctionsTest(unittest.TestCase):
    def test_parts_are_used_in_order(self):
        self.assertEqual(cut(TASK, ("and", (A, ("not", G))), OPEN, True), ((True, None, False), OPEN[1]))
        self.assertEqual(cut(TASK, ("or", (A, ("not", G))), OPEN, False), ((False, None, True), OPEN[1]))
        # m + n can be -11 in the open box, but not after m has been cut to at least -10
        parts = (("ge", M, whole(-10)), ("le", ("plus", (M, N)), whole(-11)))
        self.assertIsNone(cut(TASK, ("and", parts), OPEN, True))
        self.assertEqual(cut(TASK, ("and", parts[::-1]), OPEN, True), ((None, None, None), ((-10, 20), (0, 9))))

    def test_each_part_is_used_once(self):
        parts = (("or", (A, B)), ("not", A))
        self.assertEqual(cut(TASK, ("and", parts), OPEN, True), ((False, None, None), OPEN[1]))
        self.assertEqual(cut(TASK, ("and", parts[::-1]), OPEN, True), ((False, True, None), OPEN[1]))

    def test_parts_that_leave_nothing(self):
        self.assertIsNone(cut(TASK, ("and", (A, ("not", A))), OPEN, True))
        self.assertIsNone(cut(TASK, ("or", (A, ("not", A))), OPEN, False))
        self.assertEqual(cut(TASK, ("and", ()), OPEN, True), OPEN)
        self.assertEqual(cut(TASK, ("or", ()), OPEN, False), OPEN)

    def test_all_and_some(self):
        pairs = (("?x", "Thing"),)
        self.assertEqual(cut(TASK, ("all", pairs, fact("f", "?x")), OPEN, True), ((True, True, None), OPEN[1]))
        self.assertEqual(cut(TASK, ("some", pairs, fact("f", "?x")), OPEN, False), ((False, False, None), OPEN[1]))
        empty = (("?x", "Empty"),)
        self.assertEqual(cut(TASK, ("all", empty, FALSE), OPEN, True), OPEN)
        self.assertIsNone(cut(TASK, ("all", empty, FALSE), OPEN, False))
        self.assertEqual(cut(TASK, ("some", empty, TRUE), OPEN, False), OPEN)
        self.assertIsNone(cut(TASK, ("some", empty, TRUE), OPEN, True))

    def test_the_order_of_the_choices(self):
        task = Task(objects=(("a", "Thing"), ("b", "Thing")), facts=(("g", ("Thing", "Thing")),))
        pairs = (("?x", "Thing"), ("?y", "Thing"))
        # the choice (b, a) cuts the box to g(a, b), after (a, b) was tried and left both ways
        formula = ("all", pairs, ("or", (fact("g", "?x", "?y"), fact("g", "?y", "?x"))))
        box = ((True, None, None, True), ())
        self.assertEqual(cut(task, formula, box, True), box)
        chosen = ("all", pairs, ("implies", ("and", (("same", "?x", "b"), ("same", "?y", "a"))), ("not", fact("g", "b", "a"))))
        both = ("and", (chosen, formula))
        self.assertEqual(cut(task, both, box, True), ((True, True, False, True), ()))
        either = ("all", pairs, ("and", (("or", (fact("g", "a", "b"), fact("g", "b", "a"))),
                                         ("implies", ("same", "?x", "a"), ("not", fact("g", "b", "a"))))))
        self.assertEqual(cut(task, either, box, True), ((True, True, False, True), ()))
        later = ("all", pairs, ("and", (("or", (fact("g", "a", "b"), fact("g", "b", "a"))),
                                        ("implies", ("and", (("same", "?x", "b"), ("same", "?y", "b"))),
                                         ("not", fact("g", "b", "a"))))))
        self.assertEqual(cut(task, later, box, True), ((True, None, False, True), ()))


class DisjunctionsTest(unittest.TestCase):
    box = ((True, False, None), ((-20, 20), (0, 9)))

    def test_none_one_and_several_parts_left(self):
        self.assertIsNone(cut(TASK, ("or", (B, ("not", A))), self.box, True))
        self.assertEqual(cut(TASK, ("or", (B, G, FALSE)), self.box, True), ((True, False, True), self.box[1]))
        self.assertEqual(cut(TASK, ("or", (B, G, ("le", M, ONE))), self.box, True), self.box)
        self.assertEqual(cut(TASK, ("or", (A, G)), self.box, True), self.box)
        self.assertIsNone(cut(TASK, ("and", (A, ("not", B))), self.box, False))
        self.assertEqual(cut(TASK, ("and", (A, G)), self.box, False), ((True, False, False), self.box[1]))
        self.assertEqual(cut(TASK, ("and", (G, ("le", M, ONE))), self.box, False), self.box)

    def test_two_equal_cuts_are_two(self):
        self.assertEqual(cut(TASK, ("or", (G, G)), self.box, True), self.box)

    def test_no_parts(self):
        self.assertIsNone(cut(TASK, ("or", ()), self.box, True))
        self.assertIsNone(cut(TASK, ("and", ()), self.box, False))

    def test_implies(self):
        self.assertEqual(cut(TASK, ("implies", A, G), self.box, True), ((True, False, True), self.box[1]))
        self.assertEqual(cut(TASK, ("implies", B, G), self.box, True), self.box)
        self.assertEqual(cut(TASK, ("implies", G, B), self.box, True), ((True, False, False), self.box[1]))
        self.assertEqual(cut(TASK, ("implies", G, ("gt", M, whole(3))), self.box, False),
                         ((True, False, True), ((-20, 3), (0, 9))))
        self.assertIsNone(cut(TASK, ("implies", B, G), self.box, False))
        self.assertIsNone(cut(TASK, ("implies", G, A), self.box, False))

    def test_all_and_some(self):
        pairs = (("?x", "Thing"),)
        self.assertEqual(cut(TASK, ("some", pairs, fact("f", "?x")), self.box, True), self.box)
        box = ((None, False, None), self.box[1])
        self.assertEqual(cut(TASK, ("some", pairs, fact("f", "?x")), box, True), ((True, False, None), box[1]))
        box = ((None, True, None), self.box[1])
        self.assertEqual(cut(TASK, ("all", pairs, fact("f", "?x")), box, False), ((False, True, None), box[1]))
        self.assertEqual(cut(TASK, ("all", pairs, fact("f", "?x")), OPEN, False), OPEN)


class RemainderTest(unittest.TestCase):
    def test_remainder(self):
        self.assertEqual(remainder(TASK, A, OPEN), ((True, None, None), OPEN[1]))
        self.assertEqual(remainder(TASK, TRUE, OPEN), OPEN)
        self.assertIsNone(remainder(TASK, FALSE, OPEN))
        self.assertIsNone(remainder(TASK, A, ((False, None, None), OPEN[1])))

    def test_a_cut_in_which_the_formula_is_never(self):
        formula = ("and", (("or", (A, B)), ("not", A), ("not", B)))
        left = cut(TASK, formula, OPEN, True)
        self.assertEqual(left, ((False, False, None), OPEN[1]))
        self.assertIsNone(remainder(TASK, formula, OPEN))

    def test_a_formula_that_does_not_hold_though_it_may(self):
        formula = ("or", (("and", (A, ("not", A))), ("and", (B, B))))
        self.assertEqual(remainder(TASK, formula, OPEN), ((None, True, None), OPEN[1]))
        odd = ("eq", ("plus", (("times", 2, M), ("times", 2, N))), ONE)
        self.assertEqual(remainder(TASK, odd, OPEN), OPEN)


class DrawnTest(unittest.TestCase):
    def test_against_the_document_and_against_all_states(self):
        draw = Draw(random.Random(13))
        seen = {}
        for _ in range(50):
            task = draw.task(0)
            for _ in range(10):
                box, formula = draw.box(task), draw.formula(["a", "b"])
                left = {wanted: cut(task, formula, box, wanted) for wanted in (True, False)}
                rest = remainder(task, formula, box)
                for wanted in (True, False):
                    self.assertEqual(left[wanted], boxoracle.cut(task, formula, box, wanted))
                    self.assertTrue(left[wanted] is None or lies_in(left[wanted], box))
                    seen[left[wanted] if left[wanted] is None else left[wanted] == box] = True
                self.assertIn(rest, (None, left[True]))
                if left[True] is not None:
                    never = boxoracle.judged(task, formula, left[True]) == "never"
                    self.assertEqual(rest is None, never)
                for state in list(states_in(box))[::5]:
                    wanted = oracle.true_in(task, formula, state)
                    self.assertTrue(in_box(state, left[wanted]))
                    self.assertTrue(not wanted or in_box(state, rest))
        self.assertEqual(len(seen), 3)


if __name__ == "__main__":
    unittest.main()

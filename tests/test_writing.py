"""Point 126, and sureplan/writing.py."""

import unittest

from samples import FALSE, ONE, TRUE, action, fact, number, whole, world
from sureplan.errors import BadValue
from sureplan.reading import read_task
from sureplan.tasks import Task
from sureplan.writing import (amount_text, formula_text, lines_text, seen_text, state_text, step_text, steps_text,
                              task_text)

WORLD = world()
START = WORLD.start_state()


class TaskTest(unittest.TestCase):
    def test_a_whole_task(self):
        self.assertEqual(task_text(WORLD), """(kind Place Thing)
(kind Truck Thing)
(kind Van Truck)
(kind Ghost Thing)
(object home Place)
(object shop Place)
(object red Van)
(object old Truck)
(fact at (Truck Place))
(fact open ())
(fact near (Place Place))
(number coins () 0 9)
(number fuel (Truck) -2 5)
(resource crew () 3)
(resource dock (Place) 2)
(action drive ((?t Truck) (?a Place) (?b Place)) (if (at ?t ?a)) (then (make (at ?t ?b)) (unmake (at ?t ?a)) \
(take (fuel ?t) 1)) (cost 3) (time 2) (use (dock ?b) 1) (use crew 2))
(action wait () (if true) (then) (cost 0) (time 1))
(start (at red home) open (= coins 3) (= (fuel red) 5))
(goal (at red shop))
""")

    def test_the_example_of_the_interface(self):
        self.assertEqual(task_text(read_task("(goal true)")), "(start)\n(goal true)\n")
        self.assertEqual(task_text(Task()), "(start)\n(goal true)\n")

    def test_the_order_of_the_start(self):
        task = Task(facts=(("a", ()), ("b", ())), numbers=(("n", (), 0, 9), ("m", (), 0, 9)),
                    start=((("b", ()), ("a", ())), (("m", (), 0), ("n", (), 2))))
        self.assertEqual(task_text(task).split("\n")[-3], "(start b a (= m 0) (= n 2))")

    def test_effects(self):
        effects = (("make", "a", ()), ("unmake", "f", ("o",)), ("set", "n", (), whole(-1)), ("add", "k", ("o",), number("n")),
                   ("take", "n", (), ("plus", ())), ("when", fact("a"), ()), ("when", TRUE, (("make", "a", ()),)),
                   ("each", (("?x", "Thing"), ("?y", "Thing")), (("make", "f", ("?x",)), ("unmake", "f", ("?y",)))),
                   ("each", (("?x", "Thing"),), ()))
        task = Task(objects=(("o", "Thing"),), facts=(("a", ()), ("f", ("Thing",))),
                    numbers=(("n", (), 0, 9), ("k", ("Thing",), 0, 9)), actions=(action(effects=effects),))
        self.assertEqual(task_text(task).split("\n")[5],
                         "(action act () (if true) (then (make a) (unmake (f o)) (set n -1) (add (k o) n) (take n (+)) "
                         "(when a) (when true (make a)) (each ((?x Thing) (?y Thing)) (make (f ?x)) (unmake (f ?y))) "
                         "(each ((?x Thing)))) (cost 1) (time 1))")


class NodesTest(unittest.TestCase):
    def test_formulas(self):
        for formula, text in (
                (TRUE, "true"), (FALSE, "false"), (fact("open"), "open"), (fact("at", "red", "home"), "(at red home)"),
                (("not", fact("open")), "(not open)"), (("and", ()), "(and)"), (("or", ()), "(or)"),
                (("and", (TRUE, fact("open"))), "(and true open)"), (("or", (FALSE,)), "(or false)"),
                (("implies", TRUE, fact("open")), "(implies true open)"),
                (("all", (("?p", "Place"),), fact("near", "?p", "home")), "(all ((?p Place)) (near ?p home))"),
                (("some", (("?p", "Place"), ("?q", "Thing")), ("same", "?p", "?q")), "(some ((?p Place) (?q Thing)) (same ?p ?q))"),
                (("le", number("coins"), ONE), "(<= coins 1)"), (("lt", ONE, number("fuel", "red")), "(< 1 (fuel red))"),
                (("ge", ("plus", ()), whole(-5)), "(>= (+) -5)"), (("gt", whole(0), whole(1000000)), "(> 0 1000000)"),
                (("eq", ("minus", ONE, ONE), ("times", -3, number("coins"))), "(= (- 1 1) (* -3 coins))")):
            self.assertEqual(formula_text(WORLD, formula), text)

    def test_amounts(self):
        for amount, text in ((whole(0), "0"), (whole(-7), "-7"), (number("coins"), "coins"), (number("fuel", "old"), "(fuel old)"),
                             (("plus", (ONE, whole(2), ("plus", ()))), "(+ 1 2 (+))"), (("minus", ONE, ("times", 2, ONE)), "(- 1 (* 2 1))")):
            self.assertEqual(amount_text(WORLD, amount), text)

    def test_wrong_arguments(self):
        for formula in (None, 0, "true", (), ("fact", "closed", ()), fact("at", "?t", "home"), ["true"], ("and", [TRUE]),
                        ("make", "open", ()), ONE, ("or", (TRUE,) * 200)):
            with self.assertRaises(BadValue) as caught:
                formula_text(WORLD, formula)
            self.assertEqual(caught.exception.name, "formula")
        for amount in (None, 1, "1", (), ("int", True), ("int", 1000001), number("money"), number("fuel", "?t"), TRUE):
            with self.assertRaises(BadValue) as caught:
                amount_text(WORLD, amount)
            self.assertEqual(caught.exception.name, "amount")


class StatesTest(unittest.TestCase):
    def test_states(self):
        self.assertEqual(state_text(WORLD, START), "(state (at red home) open (= coins 3) (= (fuel red) 5) (= (fuel old) -2))")
        self.assertEqual(state_text(WORLD, ((False,) * 9, (0, -2, -2))), "(state (= coins 0) (= (fuel red) -2) (= (fuel old) -2))")
        self.assertEqual(state_text(Task(), ((), ())), "(state)")
        self.assertEqual(state_text(Task(facts=(("a", ()),)), ((True,), ())), "(state a)")

    def test_what_was_seen(self):
        self.assertEqual(seen_text(WORLD, ()), "(seen)")
        self.assertEqual(seen_text(WORLD, (("number", 2, -1), ("fact", 4, False), ("fact", 0, True), ("number", 0, 0),
                                           ("fact", 1, False))),
                         "(seen (= (fuel old) -1) (not open) (at red home) (= coins 0) (not (at red shop)))")

    def test_wrong_arguments(self):
        for state in (None, 0, (), ((False,) * 9, (0, -2)), ((False,) * 9, (0, -2, 6)), ((0,) * 9, (0, -2, -2)), "(state)"):
            with self.assertRaises(BadValue) as caught:
                state_text(WORLD, state)
            self.assertEqual(caught.exception.name, "state")
        for seen in (None, 0, [], [("fact", 0, True)], (("fact", 9, True),), (("fact", 0, 1),), (("number", 0, 10),),
                     (("fact", 0, True), ("fact", 0, False)), "(seen)"):
            with self.assertRaises(BadValue) as caught:
                seen_text(WORLD, seen)
            self.assertEqual(caught.exception.name, "seen")


class StepsTest(unittest.TestCase):
    def test_steps(self):
        self.assertEqual(step_text(WORLD, 1), "(drive red home shop)")
        self.assertEqual(step_text(WORLD, 8), "(wait)")
        self.assertEqual(steps_text(WORLD, []), "")
        self.assertEqual(steps_text(WORLD, [8, 1, 8]), "(wait)\n(drive red home shop)\n(wait)\n")
        self.assertEqual(steps_text(WORLD, [8] * 2000), "(wait)\n" * 2000)

    def test_wrong_arguments(self):
        for step in (None, -1, 9, True, "0", [0], (0,), 1.0):
            with self.assertRaises(BadValue) as caught:
                step_text(WORLD, step)
            self.assertEqual(caught.exception.name, "step")
        for steps in (None, 0, (0,), "0", {}, [9], [0, -1], [True], [None], ["0"], [0] * 500 + [9]):
            with self.assertRaises(BadValue) as caught:
                steps_text(WORLD, steps)
            self.assertEqual(caught.exception.name, "steps")

    def test_the_argument_stays_as_it_is(self):
        steps = [8, 1]
        steps_text(WORLD, steps)
        self.assertEqual(steps, [8, 1])


class LinesTest(unittest.TestCase):
    def test_lines(self):
        self.assertEqual(lines_text([]), "")
        self.assertEqual(lines_text([("sum",), ("tree", 1, 1), ("label", None), ("x1_Y", -5, None, 0), ("true",)]),
                         "(sum)\n(tree 1 1)\n(label none)\n(x1_Y -5 none 0)\n(true)\n")
        self.assertEqual(lines_text([("a", 10 ** 100 - 1, 1 - 10 ** 100)]), f"(a {'9' * 100} -{'9' * 100})\n")
        self.assertEqual(lines_text([("a" * 24,)]), "(" + "a" * 24 + ")\n")

    def test_wrong_arguments(self):
        for lines in (None, 0, (), (("sum",),), "(sum)", {}, [None], ["sum"], [["sum"]], [()], [("",)], [("Sum",)], [("1",)],
                      [("?a",)], [("a-b",)], [("a b",)], [("a" * 25,)], [(1,)], [(None,)], [("sum", True)], [("sum", False)],
                      [("sum", "1")], [("sum", "none")], [("sum", (1,))], [("sum", 1.0)], [("sum", 10 ** 100)],
                      [("sum", -10 ** 100)], [("sum", 10 ** 5000)], [("sum",), ("tree", [1])], [("sum",), None], [("_a",)],
                      [(("sum",), 1)], [([], 1)]):
            with self.assertRaises(BadValue) as caught:
                lines_text(lines)
            self.assertEqual(caught.exception.name, "lines")

    def test_the_argument_stays_as_it_is(self):
        lines = [("sum",)]
        lines_text(lines)
        self.assertEqual(lines, [("sum",)])


if __name__ == "__main__":
    unittest.main()

"""Points 122 to 125, and the functions of sureplan/reading.py beside read_task."""

import unittest

from marked import TextCase
from samples import FALSE, ONE, TRUE, fact, number, whole, world
from sureplan.errors import BadValue
from sureplan.reading import read_amount, read_formula, read_lines, read_seen, read_state, read_step, read_steps
from sureplan.tasks import Task

WORLD = world()


class ValuesCase(TextCase):
    def wrong(self, function, text, words):
        self.fails(lambda plain: function(WORLD, plain), text, words)


class FormulaTest(ValuesCase):
    """Point 122, formulas."""

    def test_formulas(self):
        for text, expected in (("true", TRUE), (" false ; no\n", FALSE), ("open", fact("open")), ("(open)", fact("open")),
                               ("(at red home)", fact("at", "red", "home")),
                               ("(and open (not (near home shop)))", ("and", (fact("open"), ("not", fact("near", "home", "shop"))))),
                               ("(some ((?p Place)) (at red ?p))", ("some", (("?p", "Place"),), fact("at", "red", "?p"))),
                               ("(= coins (fuel old))", ("eq", number("coins"), number("fuel", "old")))):
            self.assertEqual(read_formula(WORLD, text), expected)

    def test_problems_of_the_form(self):
        for text, words in (("^", "a form is expected"), ("open ^open", "too many forms"), ("open^)", "nothing to close"),
                            ("^(open", "not closed"), ("(^)", "a word is expected"), ("(not^)", "too few"),
                            ("(not open ^open)", "too many"), ("(at ^(red) home)", "a token is expected"),
                            ("(all ^x open)", "a list is expected"), ("(= ^01 1)", "an integer is expected"),
                            ("open ^#", "no such character")):
            self.wrong(read_formula, text, words)

    def test_problems_of_the_formula(self):
        for text, words in ((" ^closed", "unknown"), ("\n ^(and open closed)", "unknown"), ("^(at red)", "count"),
                            ("^(at red ?x)", "unknown"), ("^(at home home)", "kind"), ("^(same red blue)", "unknown"),
                            ("^(all () open)", "count"), ("^(all ((p Place)) open)", "name"),
                            ("^(all ((?p Place) (?p Truck)) open)", "duplicate"), ("^(all ((?p Plane)) open)", "kind"),
                            ("^(<= coins 1000001)", "range"), ("^(= (* -1000001 coins) 1)", "range"),
                            ("^(or " + "open " * 200 + ")", "large"), ("^" + "(not " * 12 + "open" + ")" * 12, "deep"),
                            ("^(true)", "unknown"), ("^(le coins 1)", "unknown"), ("^coins", "unknown"), ("^5", "unknown")):
            self.wrong(read_formula, text, words)
        wide = Task(objects=tuple((f"o{k}", "Thing") for k in range(13)))
        self.fails(lambda plain: read_formula(wide, plain), "^(all ((?x Thing) (?y Thing) (?z Thing)) true)", "wide")
        # As many nodes and as deep as they may be.
        self.assertEqual(len(read_formula(WORLD, "(or " + "open " * 199 + ")")[1]), 199)
        self.assertEqual(read_formula(WORLD, "(not " * 11 + "open" + ")" * 11)[0], "not")

    def test_the_form_comes_before_the_formula(self):
        self.wrong(read_formula, "(and closed (not^))", "too few")


class AmountTest(ValuesCase):
    """Point 122, amounts."""

    def test_amounts(self):
        for text, expected in (("0", whole(0)), ("-1000000", whole(-1000000)), ("coins", number("coins")),
                               ("(fuel red)", number("fuel", "red")), ("(+)", ("plus", ())),
                               ("(- (* 2 coins) (+ 1 (fuel old)))",
                                ("minus", ("times", 2, number("coins")), ("plus", (ONE, number("fuel", "old")))))):
            self.assertEqual(read_amount(WORLD, text), expected)

    def test_problems(self):
        for text, words in (("^", "a form is expected"), ("1 ^2", "too many forms"), ("^01", "an integer is expected"),
                            ("^-", "an integer is expected"), ("(- 1^)", "too few"), ("(* 1 2 ^3)", "too many"),
                            ("(* ^coins 2)", "an integer is expected"), ("(^)", "a word is expected"),
                            ("(+ 1 (^))", "a word is expected"), ("^1000001", "range"), ("^(+ 1 -1000001)", "range"),
                            ("^money", "unknown"), ("^(fuel)", "count"), ("^fuel", "count"), ("^(fuel home)", "kind"),
                            ("^(fuel ?t)", "unknown"), ("^open", "unknown"), ("^(plus 1)", "unknown"), ("^true", "unknown"),
                            ("^(+ " + "1 " * 200 + ")", "large"), ("^" + "(- 1 " * 12 + "1" + ")" * 12, "deep"),
                            ("^(and)", "unknown")):
            self.wrong(read_amount, text, words)


class StateTest(ValuesCase):
    """Point 123, states."""

    def test_states(self):
        self.assertEqual(read_state(WORLD, "(state)"), ((False,) * 9, (0, -2, -2)))
        self.assertEqual(read_state(WORLD, "(state (at red shop) open (= coins 9) (= (fuel old) -1))"),
                         ((False, True, False, False, True) + (False,) * 4, (9, -2, -1)))
        # The items may stand in any order.
        self.assertEqual(read_state(WORLD, "(state (= (fuel old) -1) open (= (coins) 9) (at red shop))"),
                         read_state(WORLD, "(state (at red shop) (open) (= coins 9) (= (fuel old) -1))"))
        self.assertEqual(read_state(Task(), "(state)"), ((), ()))

    def test_the_example_of_the_interface(self):
        task = Task(kinds=(("Place", "Thing"),), objects=(("home", "Place"), ("shop", "Place")), facts=(("at", ("Place",)),),
                    numbers=(("coins", (), 0, 9),))
        self.assertEqual(read_state(task, "(state (at shop))"), ((False, True), (0,)))

    def test_problems_of_the_form(self):
        for text, words in (("^", "a form is expected"), ("(state) ^(state)", "too many forms"), ("^state", "a list is expected"),
                            ("(^)", "a word is expected"), ("(^(state))", "a word is expected"), ("(^seen)", "state is expected"),
                            ("(^State open)", "state is expected"), ("(^start (=))", "state is expected"),
                            ("(state (=^))", "too few"), ("(state (= coins^))", "too few"), ("(state (= coins 1 ^2))", "too many"),
                            ("(state (= coins ^x))", "an integer is expected"), ("(state (= (^) 1))", "a word is expected"),
                            ("(state (^))", "a word is expected"), ("(state (^(open)))", "a word is expected"),
                            ("(state (at red ^()))", "a token is expected"), ("(state (= (fuel ^()) 1))", "a token is expected")):
            self.wrong(read_state, text, words)

    def test_problems_of_the_items(self):
        for text, words in (("(state ^closed)", "unknown"), ("(state open ^(at red))", "count"), ("(state ^(at red blue))", "unknown"),
                            ("(state ^(at home home))", "kind"), ("(state open\n ^open)", "duplicate"),
                            ("(state open ^(open))", "duplicate"), ("(state ^(= money 1))", "unknown"), ("(state ^(= fuel 1))", "count"),
                            ("(state ^(= (fuel shop) 1))", "kind"), ("(state (= coins 1) ^(= coins 1))", "duplicate"),
                            ("(state (= coins 1) ^(= coins 10))", "duplicate"), ("(state ^(= coins 10))", "range"),
                            ("(state ^(= coins -1))", "range"), ("(state ^(= (fuel red) 6))", "range"),
                            ("(state ^(= coins " + "9" * 100 + "))", "range"),
                            ("(state ^(= open 1))", "unknown"), ("(state ^coins)", "unknown"), ("(state ^(not open))", "unknown"),
                            ("(state ^(at red ?x))", "unknown"), ("(state ^true)", "unknown")):
            self.wrong(read_state, text, words)

    def test_all_items_are_read_before_they_are_checked(self):
        self.wrong(read_state, "(state closed (= coins 10) (=^))", "too few")
        self.wrong(read_state, "(state ^closed (= coins 10))", "unknown")
        self.wrong(read_state, "(state ^(= coins 10) closed)", "range")


class SeenTest(ValuesCase):
    """Point 123, what was seen."""

    def test_what_was_seen(self):
        self.assertEqual(read_seen(WORLD, "(seen)"), ())
        self.assertEqual(read_seen(WORLD, "(seen (not open) (= coins 4) (at old home) (not (at red home)) (= (fuel old) -2))"),
                         (("fact", 4, False), ("number", 0, 4), ("fact", 2, True), ("fact", 0, False), ("number", 2, -2)))
        self.assertEqual(read_seen(WORLD, "(seen (open))"), (("fact", 4, True),))
        self.assertEqual(read_seen(WORLD, "(seen (not (open)))"), (("fact", 4, False),))

    def test_problems_of_the_form(self):
        for text, words in (("^", "a form is expected"), ("^seen", "a list is expected"), ("(^state)", "seen is expected"),
                            ("(^)", "a word is expected"), ("(seen (not^))", "too few"), ("(seen (not open ^open))", "too many"),
                            ("(seen (not (^)))", "a word is expected"), ("(seen (not (^(not open))))", "a word is expected"),
                            ("(seen (not (at ^(red) home)))", "a token is expected"), ("(seen (= coins ^1a))", "an integer is expected"),
                            ("(seen) ^x", "too many forms")):
            self.wrong(read_seen, text, words)

    def test_problems_of_the_items(self):
        for text, words in (("(seen ^(not closed))", "unknown"), ("(seen open ^(not open))", "duplicate"),
                            ("(seen (not open) ^(not open))", "duplicate"), ("(seen (not open) ^open)", "duplicate"),
                            ("(seen ^(not (at red)))", "count"), ("(seen ^(not (at home home)))", "kind"),
                            ("(seen ^(not (not open)))", "unknown"), ("(seen ^(not (= coins 1)))", "unknown"),
                            ("(seen ^(= coins 10))", "range"), ("(seen (= coins 1) ^(= coins 2))", "duplicate"),
                            ("(seen ^(= coins 11) closed)", "range"), ("(seen ^closed (= coins 11))", "unknown")):
            self.wrong(read_seen, text, words)
        self.wrong(read_seen, "(seen closed (not^))", "too few")


class StepsTest(ValuesCase):
    """Point 124."""

    def test_steps(self):
        for index, (name, args) in enumerate(WORLD.all_steps()):
            self.assertEqual(read_step(WORLD, f"({' '.join((name,) + args)})"), index)
        self.assertEqual(read_step(WORLD, "(wait)"), 8)

    def test_lists_of_steps(self):
        self.assertEqual(read_steps(WORLD, ""), [])
        self.assertEqual(read_steps(WORLD, "(wait) (drive red home shop)\n;\n(wait)"), [8, 1, 8])
        self.assertEqual(read_steps(WORLD, "(wait)" * 500), [8] * 500)

    def test_problems_of_a_step(self):
        for text, words in (("^", "a form is expected"), ("(wait) ^(wait)", "too many forms"), ("^wait", "a list is expected"),
                            ("(^)", "a word is expected"), ("(^(wait))", "a word is expected"),
                            ("(drive ^(red) home shop)", "a token is expected"), ("(unknown ^())", "a token is expected"),
                            ("^(unknown)", "unknown"), (" ^(wait home)", "count"), ("^(drive red home)", "count"),
                            ("^(drive red home away)", "unknown"), ("^(drive ?t home shop)", "unknown"),
                            ("^(drive home home shop)", "kind"), ("^(drive red red away)", "kind"), ("^(drive red away red)", "unknown"),
                            ("^(open)", "unknown"), ("^(at red home)", "unknown")):
            self.wrong(read_step, text, words)

    def test_problems_of_lists_of_steps(self):
        for text, words in (("^wait", "a command begins with ("), ("(wait) ^wait", "a command begins with ("),
                            ("(wait) (^)", "a word is expected"), ("(wait)\n^(unknown)", "unknown"),
                            ("(wait) ^(wait red) (unknown)", "count"), ("(wait) (drive ^())", "a token is expected"),
                            ("(wait) ^(", "not closed")):
            self.wrong(read_steps, text, words)
        # Each step is read and checked before the next one.
        self.wrong(read_steps, "(wait) ^(unknown) ()", "unknown")
        self.wrong(read_steps, "(wait) (^) (unknown)", "a word is expected")

    def test_a_returned_list_is_new(self):
        read_steps(WORLD, "(wait)").clear()
        self.assertEqual(read_steps(WORLD, "(wait)"), [8])


class LinesTest(TextCase):
    """Point 125."""

    def test_lines(self):
        self.assertEqual(read_lines(""), [])
        self.assertEqual(read_lines("(sum)\n(tree 1 1) (label none) (x -5 none 0) ; end"),
                         [("sum",), ("tree", 1, 1), ("label", None), ("x", -5, None, 0)])
        # Which words these are is not checked.
        self.assertEqual(read_lines("(A? 1) (none none) (5 5) (- 0) (= -1)"),
                         [("A?", 1), ("none", None), ("5", 5), ("-", 0), ("=", -1)])
        self.assertEqual(read_lines("(a " + "9" * 100 + ")"), [("a", 10 ** 100 - 1)])

    def test_problems(self):
        for text, words in (("^sum", "a command begins with ("), ("(sum) (^)", "a word is expected"),
                            ("(^(sum))", "a word is expected"), ("(tree 1 ^a)", "an integer is expected"),
                            ("(tree ^(1) 1)", "an integer is expected"), ("(tree ^())", "an integer is expected"),
                            ("(tree ^01)", "an integer is expected"), ("(tree 1 ^None)", "an integer is expected"),
                            ("(tree ^-none)", "an integer is expected"), ("(tree ^-0)", "an integer is expected"),
                            ("(a ^" + "9" * 101 + ")", "an integer is expected"), ("(a 1)\n(b ^x) (c y)", "an integer is expected"),
                            ("(a 1)^)", "nothing to close")):
            self.fails(read_lines, text, words)

    def test_a_returned_list_is_new(self):
        read_lines("(sum)").clear()
        self.assertEqual(read_lines("(sum)"), [("sum",)])


class TextTest(TextCase):
    """The limits of a text, for every function."""

    functions = {"true": read_formula, "1": read_amount, "(state)": read_state, "(seen)": read_seen, "(wait)": read_step,
                 " ": read_steps, "\n": lambda task, text: read_lines(text)}

    def test_wrong_texts(self):
        for text, function in self.functions.items():
            function(WORLD, text)
            function(WORLD, text + " " * (200000 - len(text)))
            for wrong in (None, 0, True, b"(state)", [text], (text,), {}, text + " " * (200001 - len(text)), "#" * 200001):
                with self.assertRaises(BadValue) as caught:
                    function(WORLD, wrong)
                self.assertEqual(caught.exception.name, "text")

    def test_other_characters(self):
        for text, function in self.functions.items():
            self.fails(lambda plain: function(WORLD, plain), text + " ) ( a (\n^!", "no such character")


if __name__ == "__main__":
    unittest.main()

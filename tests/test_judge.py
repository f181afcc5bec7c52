"""Points 50, 51, 55 to 57, 59 and 62, and the class Judge of sureplan/judge.py."""

import unittest

from samples import FALSE, ONE, TRUE, action, fact, number, trip, whole
from sureplan.errors import BadValue
from sureplan.judge import Judge
from sureplan.tasks import Task

N = number("n")
START = ((False, False), (0,))


def walk():
    """Facts a and b, a number n from 0 to 5; step 0 adds 1 to n for 2, step 1 makes a for 3 if n is 5."""
    up = action("up", effects=(("add", "n", (), ONE),), cost=whole(2))
    done = action("done", condition=("eq", N, whole(5)), effects=(("make", "a", ()),), cost=whole(3))
    return Task(facts=(("a", ()), ("b", ())), numbers=(("n", (), 0, 5),), actions=(up, done), goal=fact("a"))


def judged(lines, task=None, **arguments):
    """A new judge, and its answers to the lines."""
    judge = Judge(walk() if task is None else task, **arguments)
    return judge, [judge.line(line) for line in lines]


def last(*lines):
    """The answer to the last line; the lines before must be right."""
    answers = judged(lines)[1]
    assert answers[:-1] == ["right"] * (len(lines) - 1), answers
    return answers[-1]


# What leads to each kind of place in a certificate.
NOTHING = ()
IN_INSIDE = (("invariant",),)
IN_INSIDE_SPLIT = (("invariant",), ("fact", 0))
AFTER_INSIDE = (("invariant",), ("label", 0))
SUM = (("sum",),)
LEAN = (("lean",),)
IN_TREE = SUM + (("tree", 1, 1),)
IN_SHARED = SUM + (("tree", 1, 2), ("share", 0, 0, 1))
IN_SPLIT = IN_TREE + (("fact", 0),)
IN_LEAN_TREE = LEAN + (("tree", 2, 2),)
AFTER_TREE = IN_TREE + (("label", 0),)
AFTER_LEAN_TREE = IN_LEAN_TREE + (("label", 0),)
PLACES = (NOTHING, IN_INSIDE, IN_INSIDE_SPLIT, AFTER_INSIDE, SUM, LEAN, IN_TREE, IN_SHARED, IN_SPLIT, IN_LEAN_TREE,
          AFTER_TREE, AFTER_LEAN_TREE)


class ExampleTest(unittest.TestCase):
    def test_the_example_of_the_document(self):
        judge = Judge(trip())
        lines = [("sum",), ("tree", 1, 1), ("fact", 1), ("label", 0), ("label", 3)]
        self.assertEqual([judge.line(line) for line in lines], ["right", "right", "right", "right", "step"])
        lines = [("label", 2), ("claim", 2), ("claim", 3), ("claim", None)]
        self.assertEqual([judge.line(line) for line in lines], ["right", "right", "claim", "claim"])
        self.assertEqual(judge.claim(), 2)


class KindTest(unittest.TestCase):
    def test_no_tuples(self):
        for line in (None, 0, True, "sum", ["sum"], [], {}, {"sum": 1}, b"sum"):
            self.assertEqual(last(line), "kind")

    def test_no_kinds(self):
        for word in ("", "Sum", "tee", "sum ", "none", None, 0, True, (), ("sum",), ["sum"], {}, b"sum"):
            self.assertEqual(last((word,)), "kind")
            self.assertEqual(last((word, 1, 1)), "kind")
        self.assertEqual(last(()), "kind")


class FormTest(unittest.TestCase):
    def test_the_number_of_items(self):
        counts = {"invariant": 0, "sum": 0, "lean": 0, "tree": 2, "share": 3, "fact": 1, "number": 2, "label": 1, "claim": 1}
        for word, many in counts.items():
            for other in range(6):
                if other != many:
                    for place in PLACES:
                        self.assertEqual(last(*place, (word,) + (0,) * other), "form", (word, other))
            self.assertNotIn(last((word,) + (0,) * many), ("kind", "form"))

    def test_the_kinds_of_items(self):
        no_integers = (True, False, "0", "", (), (0,), [0], 1.0, {}, b"0")
        lines = (("tree", 1, 1), ("share", 0, 1, 1), ("fact", 0), ("number", 0, 0), ("label", 0), ("claim", 0))
        for line in lines:
            for place in range(1, len(line)):
                for junk in no_integers + (None, -1):
                    spoiled = line[:place] + (junk,) + line[place + 1:]
                    is_form = not (junk is None and line[0] in ("label", "claim")) and spoiled[:1] + spoiled[2:] != (
                        "number", -1)
                    self.assertEqual(last(spoiled) == "form", is_form, spoiled)

    def test_a_negative_integer_stands_only_in_a_split_by_a_number(self):
        self.assertEqual(last(*IN_TREE, ("number", 0, -10 ** 40)), "right")
        self.assertEqual(last(*IN_TREE, ("number", -1, 0)), "form")
        self.assertEqual(last(*IN_TREE, ("label", -1)), "form")
        self.assertEqual(last(("claim", -1)), "form")

    def test_form_comes_before_order_index_and_share(self):
        self.assertEqual(last(("fact", -1)), "form")
        self.assertEqual(last(("fact", True)), "form")
        self.assertEqual(last(*IN_TREE, ("share", 9, 2, -1)), "form")
        self.assertEqual(last(("tree", 5, None)), "form")
        self.assertEqual(last(*IN_TREE, ("invariant", 0)), "form")


class OrderTest(unittest.TestCase):
    def check(self, line, good):
        for place in PLACES:
            answer = last(*place, line)
            self.assertEqual(answer != "order", place in good, (place, line, answer))

    def test_invariant(self):
        self.check(("invariant",), (NOTHING,))
        self.assertEqual(last(("claim", 0), ("invariant",)), "order")
        self.assertEqual(judged([("claim", 1), ("invariant",)])[1], ["claim", "right"])

    def test_sum_lean_and_claim(self):
        free = (NOTHING, AFTER_INSIDE, SUM, LEAN, AFTER_TREE, AFTER_LEAN_TREE)
        for line in (("sum",), ("lean",), ("claim", 0), ("claim", 7), ("claim", None)):
            self.check(line, free)

    def test_tree(self):
        self.check(("tree", 1, 1), (SUM, LEAN, AFTER_TREE))
        self.check(("tree", 2, 1), (SUM, LEAN, AFTER_TREE))

    def test_share(self):
        self.check(("share", 1, 1, 1), (IN_TREE, IN_SHARED))
        self.check(("share", 7, 1, 1), (IN_TREE, IN_SHARED))
        self.check(("share", 7, 2, 1), (IN_TREE, IN_SHARED))

    def test_share_after_a_line_that_was_not_right(self):
        judge, answers = judged(IN_TREE + (("fact", 9), ("label", -1), ("share", 0, 0, 1)))
        self.assertEqual(answers[-3:], ["index", "form", "right"])
        # A leaf that completes the tree but is not right was not right: the shares may still be told.
        judge, answers = judged(IN_TREE + (("label", 4), ("share", 0, 0, 1), ("label", 0), ("share", 0, 0, 1)))
        self.assertEqual(answers[-4:], ["goal", "right", "right", "order"])

    def test_splits_and_labels(self):
        building = (IN_INSIDE, IN_INSIDE_SPLIT, IN_TREE, IN_SHARED, IN_SPLIT, IN_LEAN_TREE)
        for line in (("fact", 0), ("fact", 9), ("number", 0, 3), ("number", 9, 3), ("label", 0), ("label", 7),
                     ("label", None)):
            self.check(line, building)

    def test_five_hundred_trees(self):
        judge = Judge(walk())
        judge.line(("sum",))
        for _ in range(500):
            self.assertEqual(judge.line(("tree", 0, 1)), "right")
            self.assertEqual(judge.line(("label", 0)), "right")
        self.assertEqual(judge.line(("tree", 0, 1)), "order")
        self.assertEqual(judge.line(("tree", 1, 0)), "order")
        self.assertEqual(judge.line(("label", 0)), "order")
        self.assertEqual(judge.line(("sum",)), "right")
        self.assertEqual(judge.line(("tree", 0, 1)), "right")

    def test_a_tree_in_place_of_one_that_was_not_right_cannot_be_begun(self):
        judge, answers = judged(SUM + (("tree", 1, 1), ("label", 5), ("tree", 1, 1), ("sum",), ("claim", 0), ("label", 0)))
        self.assertEqual(answers[2:], ["goal", "order", "order", "order", "right"])

    def test_order_comes_before_index_and_share(self):
        self.assertEqual(last(("fact", 99)), "order")
        self.assertEqual(last(("number", 99, 0)), "order")
        self.assertEqual(last(("tree", 1, 0)), "order")
        self.assertEqual(last(*IN_LEAN_TREE, ("share", 99, 2, 1)), "order")
        self.assertEqual(last(*IN_TREE, ("claim", 99)), "order")


class IndexTest(unittest.TestCase):
    def test_indexes(self):
        for index, answer in ((0, "right"), (1, "right"), (2, "index"), (10 ** 30, "index")):
            self.assertEqual(last(*IN_TREE, ("fact", index)), answer)
            self.assertEqual(last(*IN_INSIDE, ("fact", index)), answer)
            self.assertEqual(last(*IN_TREE, ("share", index, 1, 2)), answer)
        for index, answer in ((0, "right"), (1, "index"), (2, "index")):
            self.assertEqual(last(*IN_TREE, ("number", index, 3)), answer)

    def test_a_share_is_told_once(self):
        self.assertEqual(last(*IN_TREE, ("share", 0, 1, 2), ("share", 0, 1, 2)), "index")
        self.assertEqual(last(*IN_TREE, ("share", 0, 1, 2), ("share", 1, 1, 2)), "right")
        # A line that was not right told nothing.
        self.assertEqual(judged(IN_TREE + (("share", 0, 2, 1), ("share", 0, 1, 2)))[1][-2:], ["share", "right"])
        # Another tree has its own shares.
        self.assertEqual(last(*IN_SHARED, ("label", 0), ("tree", 0, 1), ("share", 0, 1, 2)), "right")

    def test_index_comes_before_share(self):
        self.assertEqual(last(*IN_TREE, ("share", 2, 2, 1)), "index")
        self.assertEqual(last(*IN_SHARED, ("share", 0, 0, 0)), "index")

    def test_a_task_without_anything(self):
        judge = Judge(Task(goal=FALSE))
        lines = [("sum",), ("tree", 1, 1), ("fact", 0), ("number", 0, 0), ("share", 0, 1, 1), ("label", None), ("claim", None)]
        self.assertEqual([judge.line(line) for line in lines],
                         ["right", "right", "index", "index", "index", "right", "right"])
        self.assertEqual(judge.claim(), "none")


class ShareTest(unittest.TestCase):
    def test_shares(self):
        for p, q, answer in ((0, 1, "right"), (1, 1, "right"), (1, 2, "right"), (7, 7, "right"), (2, 1, "share"),
                             (1, 0, "share"), (0, 0, "share"), (10 ** 40, 10 ** 40, "right")):
            self.assertEqual(last(*SUM, ("tree", p, q)), answer)
            self.assertEqual(last(*IN_TREE, ("share", 0, p, q)), answer)

    def test_shares_of_lean_layers(self):
        for p, q, answer in ((0, 1, "share"), (1, 1, "right"), (1, 2, "share"), (7, 7, "right"), (2, 1, "share"),
                             (1, 0, "share"), (0, 0, "share")):
            self.assertEqual(last(*LEAN, ("tree", p, q)), answer)


class ClaimTest(unittest.TestCase):
    def test_without_layers(self):
        judge, answers = judged([("claim", 1), ("claim", None), ("claim", 0)])
        self.assertEqual(answers, ["claim", "claim", "right"])
        self.assertEqual(judge.claim(), 0)
        self.assertIsNone(Judge(walk()).claim())
        self.assertIsNone(judged([("claim", 1), ("sum",), ("claim",)])[0].claim())

    def test_empty_layers(self):
        judge, answers = judged([("sum",), ("claim", 1), ("claim", 0), ("lean",), ("claim", 1)])
        self.assertEqual(answers, ["right", "claim", "right", "right", "claim"])

    def test_the_greatest_layer_counts(self):
        tree = [("fact", 0), ("label", 0)]
        lines = [("sum",), ("tree", 1, 1)] + tree + [("label", 1), ("claim", 1), ("claim", 2), ("sum",), ("tree", 1, 1)]
        lines += tree + [("label", 3), ("claim", 4), ("claim", 3), ("sum",), ("tree", 1, 1)] + tree + [("label", 2)]
        judge, answers = judged(lines)
        self.assertEqual([answer for line, answer in zip(lines, answers) if line[0] == "claim"],
                         ["right", "claim", "claim", "right"])
        self.assertEqual(judge.claim(), 3)
        # A lower claim is right, and does not lower the claim.
        self.assertEqual([judge.line(("claim", v)) for v in (0, 2, 3)], ["right"] * 3)
        self.assertEqual(judge.claim(), 3)

    def test_the_trees_of_a_layer_are_added(self):
        tree = [("tree", 1, 2), ("fact", 0), ("label", 0), ("label", 1)]
        judge, answers = judged([("sum",)] + tree + [("claim", 2)] + tree + [("claim", 2), ("claim", 3)])
        self.assertEqual(answers[5], "claim")
        self.assertEqual(answers[-2:], ["right", "claim"])

    def test_none_is_the_greatest(self):
        judge = Judge(walk(), goal=FALSE)
        for line in (("sum",), ("tree", 0, 1), ("label", None), ("claim", 10 ** 50)):
            self.assertEqual(judge.line(line), "right")
        self.assertEqual(judge.claim(), 10 ** 50)
        self.assertEqual(judge.line(("claim", None)), "right")
        self.assertEqual(judge.claim(), "none")
        self.assertEqual(judge.line(("claim", 3)), "right")
        self.assertEqual(judge.claim(), "none")

    def test_the_total_of_none_and_an_integer_is_none(self):
        judge = Judge(walk(), goal=FALSE)
        lines = [("sum",), ("tree", 0, 1), ("label", 4), ("tree", 0, 1), ("label", None), ("tree", 0, 1), ("label", 0)]
        self.assertEqual([judge.line(line) for line in lines], ["right"] * 7)
        self.assertEqual(judge.line(("claim", None)), "right")


class StateTest(unittest.TestCase):
    lines = [("fact", 9), ("sum",), ("sum", 1), ("tree", 2, 1), ("tree", 1, 1), ("share", 0, 2, 1), ("sum",), ("fact", 2),
             ("fact", 0), ("share", 0, 1, 1), ("label", -1), ("label", 0), ("claim", 0), ("label", 4), ("label", None),
             ("number", 0, 4), ("label", 3), ("label", 4), ("label", 3), ("claim", 4), ("claim", 3), ("kind",), ("claim", 1)]

    def test_lines_that_are_not_right_change_nothing(self):
        judge, answers = judged(self.lines)
        right = [line for line, answer in zip(self.lines, answers) if answer == "right"]
        self.assertEqual(right, [("sum",), ("tree", 1, 1), ("fact", 0), ("label", 0), ("number", 0, 4), ("label", 3),
                                 ("label", 3), ("claim", 3), ("claim", 1)])
        other, other_answers = judged(right)
        self.assertEqual(other_answers, ["right"] * len(right))
        self.assertEqual((judge.claim(), other.claim()), (3, 3))

    def test_every_wrong_line_may_be_repeated(self):
        plain, answers = judged(self.lines)
        judge = Judge(walk())
        for line, answer in zip(self.lines, answers):
            if answer != "right":
                self.assertEqual([judge.line(line) for _ in range(3)], [answer] * 3)
            self.assertEqual(judge.line(line), answer)
        self.assertEqual(judge.claim(), plain.claim())

    def test_judges_are_independent(self):
        first, second = Judge(walk()), Judge(walk())
        first.line(("sum",))
        self.assertEqual(second.line(("tree", 1, 1)), "order")
        self.assertEqual(first.line(("tree", 1, 1)), "right")


class ArgumentsTest(unittest.TestCase):
    def test_defaults(self):
        goal_at_once = [("sum",), ("tree", 1, 1), ("label", 1)]
        self.assertEqual(judged(goal_at_once)[1][-1], "goal")
        self.assertEqual(judged(goal_at_once, goal=FALSE)[1][-1], "right")
        lines = [("sum",), ("tree", 1, 1), ("fact", 0), ("label", 0), ("number", 0, 4), ("label", 5), ("label", 3),
                 ("claim", 5)]
        self.assertEqual(judged(lines)[1][-1], "right")
        self.assertEqual(judged(lines, state=((False, False), (5,)))[1][-1], "claim")
        self.assertEqual(judged(lines, state=((True, False), (0,)))[1][-1], "claim")
        self.assertEqual(judged(lines, state=None, goal=None)[1][-1], "right")

    def test_wrong_states(self):
        for state in (0, (), "start", ((False,), (0,)), ((False, False), (6,)), ((False, False), (True,)),
                      [(False, False), (0,)], ((0, 0), (0,))):
            with self.assertRaises(BadValue) as caught:
                Judge(walk(), state)
            self.assertEqual(caught.exception.name, "state")
            with self.assertRaises(BadValue) as caught:
                Judge(walk(), state, ("fact",))
            self.assertEqual(caught.exception.name, "state")

    def test_wrong_goals(self):
        for goal in (0, (), "true", ("fact", "c", ()), ("fact", "a", ("?x",)), ("and", TRUE), False):
            with self.assertRaises(BadValue) as caught:
                Judge(walk(), None, goal)
            self.assertEqual(caught.exception.name, "goal")
            with self.assertRaises(BadValue) as caught:
                Judge(walk(), START, goal)
            self.assertEqual(caught.exception.name, "goal")


if __name__ == "__main__":
    unittest.main()

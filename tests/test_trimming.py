"""Points 61 and 62, and sureplan/trimming.py."""

import random
import unittest

from drawnlines import DrawnLines, slow_judge, spoiled
from judgeoracle import trimmed as slow_trimmed
from randoms import lively_case
from samples import FALSE, ONE, action, fact, number, trip, whole
from sureplan.certificates import certificate
from sureplan.errors import BadValue
from sureplan.judge import Judge
from sureplan.tasks import Task
from sureplan.trimming import trimmed

N = number("n")


def label(v):
    return ("label", v)


def walk():
    """Facts a and b, a number n from 0 to 5; step 0 adds 1 to n for 2, step 1 makes a for 3 if n is 5."""
    up = action("up", effects=(("add", "n", (), ONE),), cost=whole(2))
    done = action("done", condition=("eq", N, whole(5)), effects=(("make", "a", ()),), cost=whole(3))
    return Task(facts=(("a", ()), ("b", ())), numbers=(("n", (), 0, 5),), actions=(up, done), goal=fact("a"))


def claims(task, lines, state=None, goal=None):
    """The claim of a new judge; all lines must be right."""
    judge = Judge(task, state, goal)
    assert [judge.line(line) for line in lines] == ["right"] * len(lines), lines
    return judge.claim()


LAST = [("tree", 1, 1), ("fact", 0), label(0), label(3)]
LONG = [("tree", 1, 1), ("fact", 0), label(0), ("number", 0, 4), label(5), label(3)]


class ReductionTest(unittest.TestCase):
    def check(self, lines, expected, task=None, state=None, goal=None):
        task = walk() if task is None else task
        found = trimmed(task, state, goal, lines)
        self.assertEqual(found, expected)
        if found is not None:
            judge = Judge(task, state, goal)
            for line in lines:
                judge.line(line)
            self.assertEqual(claims(task, found, state, goal), judge.claim())
            self.assertEqual(trimmed(task, state, goal, found), found)
            judge_of = lambda: slow_judge(task, task.start_state() if state is None else state, goal)
            self.assertEqual(slow_trimmed(judge_of, lines), found)

    def test_no_right_claim(self):
        for lines in ([], [("claim", 1)], [("claim", None)], [("sum",)], [("sum",)] + LAST, [("claim",)], [()], [None],
                      [("sum",)] + LAST + [("claim", 4)], [("sum",), ("tree", 1, 1), ("claim", 0)], [("invariant",),
                                                                                                     ("claim", 0)]):
            self.check(lines, None)

    def test_a_claim_of_0_needs_nothing(self):
        self.check([("claim", 0)], [("claim", 0)])
        self.check([("sum",)] + LAST + [("claim", 0)], [("claim", 0)])
        self.check([("invariant",), label(0), ("sum",), ("lean",), ("claim", 0)], [("claim", 0)])

    def test_what_is_needed_stays(self):
        self.check([("sum",)] + LAST + [("claim", 3)], [("sum",)] + LAST + [("claim", 3)])
        self.check([("sum",)] + LONG + [("claim", 5)], [("sum",)] + LONG + [("claim", 5)])
        self.check([("lean",)] + LONG + [("claim", 5)], [("lean",)] + LONG + [("claim", 5)])

    def test_the_example_of_the_judge(self):
        lines = [("sum",), ("tree", 1, 1), ("fact", 1), label(0), label(3), label(2), ("claim", 2), ("claim", 3),
                 ("claim", None)]
        self.check(lines, [("sum",), ("tree", 1, 1), ("fact", 1), label(0), label(2), ("claim", 2)], trip())

    def test_lines_that_are_not_right(self):
        lines = [("claim", 3), ("fact", 0), None, ("sum",), ("sum", 1), ("tree", 2, 1), LAST[0], ("share", 5, 1, 1)]
        lines += [("fact", 0), ("fact", 7), label(-1), label(0), label(9), ("claim", 1), label(3), ("claim", 4), ("claim", 3)]
        self.check(lines, [("sum",)] + LAST + [("claim", 3)])

    def test_the_greatest_of_several_claims(self):
        self.check([("claim", 0), ("sum",)] + LONG + [("claim", 4), ("claim", 5), ("claim", 2), ("claim", 6)],
                   [("sum",)] + LONG + [("claim", 5)])
        self.check([("claim", 0), ("sum",)] + LONG + [("claim", 2), ("claim", 3)], [("sum",)] + LAST + [("claim", 3)])

    def test_the_claim_that_there_is_no_plan(self):
        lines = [("sum",), ("tree", 1, 1), label(None), ("claim", 7), ("claim", None), ("claim", 9)]
        self.check(lines, [("sum",), ("tree", 1, 1), label(None), ("claim", None)], goal=FALSE)

    def test_a_tree_that_is_still_being_built(self):
        built = [("sum",)] + LAST + [("claim", 3)]
        for rest in ([("tree", 0, 1)], [("tree", 0, 1), ("share", 1, 0, 1)], [("tree", 0, 1), ("fact", 1), label(0)],
                     [("tree", 1, 1), label(0)], [("lean",), ("tree", 1, 1), ("number", 0, 1)]):
            self.check(built + rest, built)

    def test_layers_are_left_out_from_the_last_one(self):
        other = [("tree", 1, 1), ("fact", 0), label(0), ("number", 0, 4), label(4), label(3)]
        layers = [("sum",)] + LONG + [("lean",)] + LAST + [("sum",)] + other
        self.check(layers + [("claim", 3)], [("sum",)] + LAST + [("claim", 3)])
        self.check(layers + [("claim", 4)], [("sum",)] + LONG[:4] + [label(5), label(3), ("claim", 4)])
        # The second layer is needed by the third one only if this one is needed.
        self.check([("sum",), ("lean",)] + LAST + [("sum",), ("claim", 3)], [("lean",)] + LAST + [("claim", 3)])

    def test_a_layer_that_a_lean_layer_needs(self):
        short = [("tree", 1, 1), ("fact", 0), label(0), ("number", 0, 3), label(7), ("number", 0, 4), label(5), label(0)]
        lines = [("sum",)] + LONG + [("lean",)] + short + [("claim", 7)]
        # The label 5 of the tree of the sum layer is not needed, as the lean layer has one itself.
        self.check(lines, [("sum",)] + LAST + [("lean",)] + short + [("claim", 7)])

    def test_a_layer_that_only_what_is_left_out_needs(self):
        # The third layer relies on the second one where b holds, the second one on the first one. The claim needs none
        # of this; so a split of the third layer goes first, then the second layer, and then the first one.
        lines = [("sum",), ("tree", 1, 1), ("fact", 0), label(0), ("fact", 1), ("number", 0, 4), label(5), label(3), label(0)]
        lines += [("lean",), ("tree", 1, 1), ("fact", 0), label(0), ("fact", 1), ("number", 0, 3), label(7),
                  ("number", 0, 4), label(5), label(0), label(0)]
        last = [("lean",), ("tree", 1, 1), ("fact", 0), label(0), ("fact", 1)]
        self.check(lines + last + [("number", 0, 2), label(9), label(0), label(3), ("claim", 3)],
                   last + [label(0), label(3), ("claim", 3)])

    def test_trees_are_left_out_from_the_last_one(self):
        def third(v):
            return [("tree", 1, 3), ("share", 1, v, 3), ("fact", 0), label(0), label(v)]
        layer = [("sum",)] + third(1) + third(1) + third(1)
        self.check(layer + [("claim", 3)], layer + [("claim", 3)])
        self.check(layer + [("claim", 2)], [("sum",)] + third(1) + third(1) + [("claim", 2)])
        layer = [("sum",)] + third(1) + third(2) + third(0)
        self.check(layer + [("claim", 2)], [("sum",)] + third(2) + [("claim", 2)])
        self.check(layer + [("claim", 1)], [("sum",)] + third(1) + [("claim", 1)])

    def test_trees_come_layer_by_layer_from_the_first(self):
        # Neither layer can be left out; the lean layer needs only one of the trees.
        half = [("tree", 1, 2), ("fact", 0), label(0), ("number", 0, 4), label(1), label(1)]
        lean = [("lean",), ("tree", 1, 1), ("fact", 0), label(0), ("number", 0, 4), label(3), label(0)]
        lines = [("sum",)] + half + half + lean + [("claim", 3)]
        crop = half[:3] + [label(1)]
        self.check(lines, [("sum",)] + crop + lean + [("claim", 3)])

    def test_splits_are_replaced_from_the_first_line(self):
        tree = [("tree", 1, 1), ("fact", 0), ("fact", 1), label(0), label(0), ("fact", 1), ("number", 0, 4), label(5), label(3),
                ("number", 0, 4), label(5), label(3)]
        self.check([("sum",)] + tree + [("claim", 3)], [("sum",)] + LAST + [("claim", 3)])
        # The claim needs the label 5 where b does not hold, the other side takes the least label.
        self.check([("sum",)] + tree + [("claim", 5)], [("sum",)] + tree[:2] + [label(0), ("fact", 1), label(3)]
                   + tree[9:] + [("claim", 5)])

    def test_shares_are_kept_as_they_were_written(self):
        tree = [("tree", 2, 4), ("share", 1, 6, 6), ("share", 0, 0, 9), ("fact", 0), ("fact", 1), label(0), label(0), label(3)]
        self.check([("sum",)] + tree + [("claim", 3)],
                   [("sum",), ("tree", 2, 4), ("share", 1, 6, 6), ("share", 0, 0, 9), ("fact", 0), label(0), label(3),
                    ("claim", 3)])

    def test_a_label_below_a_leaf_without_a_box(self):
        # The least label below the split is 2, though no state has it: the claim 3 keeps the split.
        tree = [("tree", 1, 1), ("fact", 0), label(0), ("number", 0, 9), label(3), label(2)]
        self.check([("sum",)] + tree + [("claim", 3)], [("sum",)] + tree + [("claim", 3)])
        self.check([("sum",)] + tree + [("claim", 2)], [("sum",)] + LAST[:3] + [label(2), ("claim", 2)])
        # None and integers without a box.
        tree = [("tree", 1, 1), ("fact", 0), label(0), ("number", 0, 9), label(3), label(None)]
        self.check([("sum",)] + tree + [("claim", 3)], [("sum",)] + LAST + [("claim", 3)])
        tree = [("tree", 1, 1), ("fact", 0), label(0), ("fact", 0), ("number", 0, 2), label(0), label(9), label(3)]
        self.check([("sum",)] + tree + [("claim", 3)],
                   [("sum",), ("tree", 1, 1), ("fact", 0), label(0), ("fact", 0), label(0), label(3), ("claim", 3)])


class InsideTest(unittest.TestCase):
    check = ReductionTest.check
    task = Task(facts=(("a", ()), ("b", ())), numbers=(("n", (), 0, 5),), goal=("or", (fact("a"), fact("b"))),
                actions=(action("jump", condition=("and", (fact("b"), ("gt", N, ONE))), effects=(("make", "a", ()),),
                                cost=whole(0)),
                         action("up", effects=(("add", "n", (), ONE),), cost=whole(2)),
                         action("done", condition=("eq", N, whole(5)), effects=(("make", "a", ()),), cost=whole(3))))

    def test_the_tree_is_left_out_if_it_is_not_needed(self):
        inside = [("invariant",), ("fact", 1), label(None), label(0)]
        self.check(inside + [("sum",)] + LONG + [("claim", 5)], [("sum",)] + LONG + [("claim", 5)])
        self.check(inside + [("claim", 0)], [("claim", 0)])

    def test_the_tree_is_kept_if_it_is_needed(self):
        task = self.task
        inside = [("invariant",), ("fact", 1), label(None), label(0)]
        self.check(inside + [("sum",)] + LAST + [("claim", 3)], inside + [("sum",)] + LAST + [("claim", 3)], task)
        # Its splits are replaced in the order of the lines; the least label stands in their place.
        inside = [("invariant",), ("fact", 1), ("number", 0, 1), label(None), label(None), ("number", 0, 3), label(7), label(4)]
        self.check(inside + [("sum",)] + LAST + [("claim", 3)],
                   [("invariant",), ("fact", 1), label(None), label(4), ("sum",)] + LAST + [("claim", 3)], task)

    def test_none_and_an_integer_below_a_split(self):
        # The states where a holds may be inside or not; the split takes the integer.
        inside = [("invariant",), ("fact", 1), label(None), ("fact", 0), label(2), label(1)]
        self.check(inside + [("sum",)] + LAST + [("claim", 3)],
                   [("invariant",), ("fact", 1), label(None), label(1), ("sum",)] + LAST + [("claim", 3)], self.task)
        inside = [("invariant",), ("fact", 1), label(None), ("number", 0, 9), label(2), label(None)]
        self.check(inside + [("sum",)] + LAST + [("claim", 3)],
                   [("invariant",), ("fact", 1), label(None), label(2), ("sum",)] + LAST + [("claim", 3)], self.task)
        # An integer in a leaf without a box would let the states where b holds inside.
        inside = [("invariant",), ("fact", 1), ("number", 0, 9), label(None), label(0), label(0)]
        self.check(inside + [("sum",)] + LAST + [("claim", 3)], inside + [("sum",)] + LAST + [("claim", 3)], self.task)

    def test_trees_of_layers_come_before_the_inside(self):
        # Either the split of the layer or that of the inside can be left out; the one of the layer is.
        zero = action("zero", condition=("and", (fact("b"), ("eq", N, whole(0)))), effects=(("make", "a", ()),), cost=whole(1))
        task = Task(facts=(("a", ()), ("b", ())), numbers=(("n", (), 0, 1),), actions=(zero,), goal=fact("a"),
                    start=((), (("n", (), 1),)))
        inside = [("invariant",), ("number", 0, 0), label(None), label(0)]
        tree = [("sum",), ("tree", 1, 1), ("fact", 0), label(0), ("number", 0, 0), label(1), label(4)]
        self.check(inside + tree + [("claim", 4)], tree + [("claim", 4)], task)


class DrawnTest(unittest.TestCase):
    def check(self, seed, task, state, goal, lines):
        answers = {}

        def judge_of():
            judge = slow_judge(task, state, goal)
            judge.answers = answers
            return judge
        before = list(lines)
        found = trimmed(task, state, goal, lines)
        self.assertEqual(lines, before)
        self.assertEqual(found, slow_trimmed(judge_of, lines), (seed, lines))
        if found is not None:
            self.assertEqual(trimmed(task, state, goal, found), found, seed)
        return found

    def test_drawn_certificates(self):
        words = {}
        for seed in range(250):
            source = random.Random(seed)
            task, state, _ = lively_case(source, least=3)
            lines = DrawnLines(source, slow_judge(task, state), source.choice((3, 9))).certificate()
            if len(lines) <= 200:
                for line in self.check(seed, task, state, None, lines):
                    words[line[0]] = words.get(line[0], 0) + 1
        for word in ("sum", "lean", "invariant", "tree", "share", "fact", "number", "label"):
            self.assertGreater(words.get(word, 0), 0, word)

    def test_lines_among_which_some_are_not_right(self):
        for seed in range(150):
            source = random.Random(seed)
            task, state, _ = lively_case(source, least=2)
            lines = DrawnLines(source, slow_judge(task, state)).certificate()
            mixed = []
            for line in lines[:120]:
                mixed += [spoiled(source, line), line] if source.random() < 0.3 else [line]
            value = source.randint(0, 3)
            self.check(seed, task, state, None, mixed + [("label", 0), ("claim", value), ("claim", 1)])

    def test_certificates_of_the_program(self):
        for seed in range(60):
            source = random.Random(seed)
            task, state, plan = lively_case(source, least=2)
            lines = certificate(task, state)
            found = self.check(seed, task, state, None, lines)
            self.assertEqual(claims(task, found, state), "none" if plan is None else plan[0])
            goal = ("fact", "f0", ())
            self.check(seed, task, state, goal, certificate(task, state, goal))


class ArgumentsTest(unittest.TestCase):
    def test_the_number_of_lines(self):
        for junk in (("claim", 0), None, ("sum",)):
            self.assertEqual(trimmed(walk(), None, None, [("claim", 0)] + [junk] * 999), [("claim", 0)])
            with self.assertRaises(BadValue) as caught:
                trimmed(walk(), None, None, [("claim", 0)] + [junk] * 1000)
            self.assertEqual(caught.exception.name, "lines")

    def test_no_list(self):
        for lines in (None, (), (("claim", 0),), "claim", 0, {}, {("claim", 0): 1}):
            with self.assertRaises(BadValue) as caught:
                trimmed(walk(), None, None, lines)
            self.assertEqual(caught.exception.name, "lines")

    def test_wrong_states_and_goals_come_first(self):
        for state, goal, name in ((3, None, "state"), (((False,), (0,)), 0, "state"), (None, 0, "goal"), (None, (), "goal"),
                                  (((False, False), (0,)), ("fact", "x", ()), "goal")):
            with self.assertRaises(BadValue) as caught:
                trimmed(walk(), state, goal, None)
            self.assertEqual(caught.exception.name, name)

    def test_state_and_goal_count(self):
        lines = [("sum",)] + LONG + [("claim", 5), ("claim", 3)]
        self.assertEqual(trimmed(walk(), None, None, lines)[-1], ("claim", 5))
        self.assertEqual(trimmed(walk(), ((False, True), (5,)), None, lines)[-1], ("claim", 3))
        self.assertEqual(trimmed(walk(), None, fact("b"), [("sum",), ("tree", 1, 1), ("fact", 1), label(0), label(None),
                                                           ("claim", None)])[-1], ("claim", None))

    def test_the_lines_stay_as_they_are(self):
        lines = [("sum",)] + LONG + [("claim", 3), ["claim", 0]]
        before = list(lines)
        found = trimmed(walk(), None, None, lines)
        self.assertEqual(lines, before)
        found.append(("claim", 9))
        self.assertEqual(trimmed(walk(), None, None, lines), found[:-1])

    def test_many_lines(self):
        up = action("up", effects=(("add", "n", (), ONE),))
        task = Task(numbers=(("n", (), 0, 200),), actions=(up,), goal=("ge", N, whole(200)))
        lines = certificate(task)
        filled = lines + [("claim", value) for value in range(1000 - len(lines))]
        self.assertEqual(len(filled), 1000)
        self.assertEqual(trimmed(task, None, None, filled), lines)
        self.assertEqual(claims(task, lines), 200)
        # The values up to 99 get a single leaf with the label 101.
        found = trimmed(task, None, None, lines[:-1] + [("claim", 100)])
        self.assertEqual(claims(task, found), 100)
        self.assertEqual(len([line for line in found if line[0] == "number"]), 101)


if __name__ == "__main__":
    unittest.main()

"""Points 48 to 54: labels, boxes of leaves, the inside, layers, and when a tree is right."""

import unittest

from samples import FALSE, ONE, TRUE, action, fact, number, whole
from sureplan.judge import Judge
from sureplan.stepchecks import StepCheck
from sureplan.tasks import Task

N, M = number("n"), number("m")


def walk(top=5, cost=2, goal=None):
    """Facts a and b, a number n from 0; step 0 adds 1 to n, step 1 makes a for 3 if n is 5."""
    up = action("up", effects=(("add", "n", (), ONE),), cost=whole(cost))
    done = action("done", condition=("eq", N, whole(5)), effects=(("make", "a", ()),), cost=whole(3))
    return Task(facts=(("a", ()), ("b", ())), numbers=(("n", (), 0, top),), actions=(up, done),
                goal=fact("a") if goal is None else goal)


def answers(task, lines, state=None, goal=None):
    judge = Judge(task, state, goal)
    return [judge.line(line) for line in lines]


def last(task, *lines, state=None, goal=None):
    """The answer to the last line; the lines before must be right."""
    found = answers(task, lines, state, goal)
    assert found[:-1] == ["right"] * (len(lines) - 1), found
    return found[-1]


TREE = (("sum",), ("tree", 1, 1))
LEAN = (("lean",), ("tree", 1, 1))


def label(v):
    return ("label", v)


class LabelTest(unittest.TestCase):
    """Point 48, and the comparisons of point 53."""

    def test_an_integer_before_none(self):
        # The box where n is 5 leads to the box where a holds.
        split = (("fact", 0), label(0), ("number", 0, 4))
        self.assertEqual(last(walk(), *TREE, *split, label(13), label(3)), "step")
        self.assertEqual(last(walk(), *TREE, *split, label(5), label(3)), "right")
        # No step leads from a label None to an integer, and every step leads from an integer to None.
        apart = (("number", 0, 2), label(7), label(None))
        self.assertEqual(last(walk(), *TREE, *apart, goal=FALSE), "right")
        apart = (("number", 0, 2), label(None), label(7))
        self.assertEqual(last(walk(), *TREE, *apart, goal=FALSE), "step")
        apart = (("number", 0, 2), label(None), label(None))
        self.assertEqual(last(walk(), *TREE, *apart, goal=FALSE), "right")
        self.assertEqual(last(walk(), *TREE, *apart[:2], label(0), goal=FALSE), "step")

    def test_none_is_not_0_for_the_goal(self):
        self.assertEqual(last(walk(), *TREE, label(None)), "goal")
        self.assertEqual(last(walk(), *TREE, label(0)), "right")
        self.assertEqual(last(walk(), *TREE, ("fact", 0), label(None), label(0)), "goal")

    def test_exact_thresholds(self):
        split = (("fact", 0), label(0))
        self.assertEqual(last(walk(), *TREE, *split, label(2)), "right")
        self.assertEqual(last(walk(), *TREE, *split, label(3)), "right")
        self.assertEqual(last(walk(), *TREE, *split, label(4)), "step")
        split += (("number", 0, 4),)
        self.assertEqual(last(walk(), *TREE, *split, label(5), label(3)), "right")
        self.assertEqual(last(walk(), *TREE, *split, label(6), label(3)), "step")


class BoxOfLeafTest(unittest.TestCase):
    """Point 49."""

    def test_splits_that_leave_no_value(self):
        for c in (-1, -7, -10 ** 30):
            self.assertEqual(last(walk(), *TREE, ("number", 0, c), label(99), label(0)), "right")
            self.assertEqual(last(walk(), *TREE, ("number", 0, c), label(0), label(99)), "goal")
        for c in (5, 6, 10 ** 30):
            self.assertEqual(last(walk(), *TREE, ("number", 0, c), label(0), label(99)), "right")
            self.assertEqual(last(walk(), *TREE, ("number", 0, c), label(99), label(0)), "goal")

    def test_splits_that_leave_no_value_together(self):
        lines = (("number", 0, 3), ("number", 0, 3), label(0), label(None), ("number", 0, 3), label(None), label(0))
        self.assertEqual(last(walk(), *TREE, *lines), "right")
        lines = (("number", 0, 3), ("number", 0, 2), label(0), label(None), label(0))
        self.assertEqual(last(walk(), *TREE, *lines), "goal")

    def test_the_same_fact_both_ways(self):
        lines = (("fact", 0), ("fact", 0), label(0), label(None), ("fact", 0), label(None), label(0))
        self.assertEqual(last(walk(), *TREE, *lines), "right")
        lines = (("fact", 0), ("fact", 1), ("fact", 0), label(0), label(7), label(0), label(0))
        self.assertEqual(last(walk(), *TREE, *lines), "right")
        lines = (("fact", 0), ("fact", 1), ("fact", 0), label(0), label(7), label(1), label(0))
        self.assertEqual(last(walk(), *TREE, *lines), "goal")

    def test_a_leaf_without_a_box_is_no_way_on(self):
        # Its label 0 would make the label of the leaves before it wrong.
        lines = (("fact", 0), label(0), ("number", 0, 4), label(3), ("number", 0, 4), label(0), label(3))
        self.assertEqual(last(walk(), *TREE, *lines), "right")

    def test_leaves_without_a_box_in_the_inside(self):
        lines = (("invariant",), ("fact", 0), ("fact", 0), label(0), label(None), ("number", 0, 9), label(0), label(None))
        self.assertEqual(last(walk(), *lines), "right")
        # An integer in a leaf without a box leaves nothing inside.
        lines = (("invariant",), ("number", 0, 9), ("fact", 1), label(None), label(0), label(0))
        task = walk(goal=fact("b"))
        self.assertEqual(last(task, *lines, *TREE, label(None)), "right")


class InsideTest(unittest.TestCase):
    """Points 50 and 54."""

    def test_without_a_tree_for_the_inside(self):
        self.assertEqual(last(walk(), *TREE, ("fact", 1), label(1), label(0)), "goal")
        self.assertEqual(last(walk(), *TREE, ("fact", 0), label(0), label(1)), "right")

    def test_start(self):
        for v, answer in ((None, "start"), (0, "right"), (5, "right")):
            self.assertEqual(last(walk(), ("invariant",), label(v)), answer)
        lines = (("invariant",), ("number", 0, 2), label(0), label(None))
        self.assertEqual(last(walk(), *lines, state=((False, False), (3,))), "start")
        self.assertEqual(last(walk(), ("invariant",), ("fact", 1), label(0), label(None)), "start")

    def test_step(self):
        self.assertEqual(last(walk(), ("invariant",), ("number", 0, 2), label(0), label(None)), "step")
        self.assertEqual(last(walk(), ("invariant",), ("number", 0, 2), label(None), label(0),
                              state=((False, False), (3,))), "right")
        self.assertEqual(last(walk(), ("invariant",), ("fact", 1), label(None), label(0)), "right")
        # The step is only possible where n is 0, and leads to 2.
        up = action("up", condition=("lt", N, ONE), effects=(("add", "n", (), whole(2)),))
        task = Task(numbers=(("n", (), 0, 5),), actions=(up,))
        lines = (("invariant",), ("number", 0, 2), ("number", 0, 0), label(0))
        self.assertEqual(last(task, *lines, label(None), label(None)), "step")
        self.assertEqual(last(task, *lines, label(0), label(None)), "right")

    def test_a_leaf_on_the_way_between_two_others(self):
        up = action("up", condition=("lt", N, ONE), effects=(("add", "n", (), whole(2)),))
        task = Task(numbers=(("n", (), 0, 5),), actions=(up,))
        lines = (("invariant",), ("number", 0, 0), label(0), ("number", 0, 1), label(None))
        self.assertEqual(last(task, *lines, label(0)), "right")
        self.assertEqual(last(task, *lines, ("number", 0, 2), label(0), label(None)), "right")
        self.assertEqual(last(task, *lines, ("number", 0, 2), label(None), label(0)), "step")

    def test_start_comes_before_step(self):
        # n at least 3 leads to itself only; n at most 2 leads out; the start is where n is 4.
        lines = (("invariant",), ("number", 0, 2), label(0), label(None))
        self.assertEqual(last(walk(), *lines, state=((False, False), (4,))), "start")
        self.assertEqual(last(walk(), *lines, state=((False, False), (1,))), "step")

    def test_the_leaf_stays_due(self):
        found = answers(walk(), [("invariant",), ("number", 0, 2), label(None), label(None), label(0), ("sum",)],
                        ((False, False), (3,)))
        self.assertEqual(found, ["right", "right", "right", "start", "right", "right"])
        found = answers(walk(), [("invariant",), ("number", 0, 2), label(0), label(None), ("sum",), ("number", 0, 9),
                                 label(0), label(None), ("sum",)])
        self.assertEqual(found[3:], ["step", "order", "right", "right", "right", "right"])

    def test_what_is_outside_plays_no_part(self):
        inside = (("invariant",), ("fact", 1), label(None), label(0))
        task = walk(goal=fact("b"))
        self.assertEqual(last(task, *inside, *TREE, label(None)), "right")
        self.assertEqual(last(task, *TREE, label(None)), "goal")
        # Steps that only states outside of the inside have.
        jump = action("jump", condition=fact("b"), effects=(("make", "a", ()),), cost=whole(0))
        task = Task(facts=(("a", ()), ("b", ())), actions=(jump,), goal=fact("a"))
        tree = (("fact", 0), label(0), label(1))
        self.assertEqual(last(task, *TREE, *tree), "step")
        self.assertEqual(last(task, *inside, *TREE, *tree), "right")

    def test_what_a_step_reaches_outside_plays_no_part(self):
        # The box of a leaf reaches beyond the inside, its pieces do not.
        double = action("double", effects=(("set", "n", (), ("times", 2, N)),), cost=whole(1))
        task = Task(facts=(("a", ()),), numbers=(("n", (), 0, 9),), actions=(double,), goal=("gt", N, whole(4)))
        inside = (("invariant",), ("number", 0, 0), label(3), label(None))
        tree = (("number", 0, 4), label(5), label(0))
        self.assertEqual(last(task, *TREE, *tree), "step")
        self.assertEqual(last(task, *inside, *TREE, *tree), "right")

    def test_several_boxes_of_the_inside(self):
        # From n = 1 to n = 3 to n = 5; the values between are outside.
        up = action("up", condition=("or", (("eq", N, ONE), ("eq", N, whole(3)))), effects=(("add", "n", (), whole(2)),))
        task = Task(numbers=(("n", (), 0, 6),), actions=(up,), start=((), (("n", (), 1),)), goal=("eq", N, whole(5)))
        inside = [("invariant",)]
        for c in range(6):
            inside += [("number", 0, c), label(c if c % 2 else None)]
        inside.append(label(None))
        # In the whole box, n may be 4 before the step as far as boxes tell.
        tree = [("number", 0, 4), label(1), ("number", 0, 5), label(0), label(1)]
        self.assertEqual(last(task, *inside, *TREE, *tree), "right")
        self.assertEqual(last(task, *TREE, *tree), "right")
        tree = [("number", 0, 2), label(2), ("number", 0, 4), label(1), ("number", 0, 5), label(0), label(None)]
        self.assertEqual(last(task, *inside, *TREE, *tree), "right")
        tree[1] = label(3)
        self.assertEqual(last(task, *inside, *TREE, *tree), "step")

    def test_pieces_stand_in_the_order_of_the_inside(self):
        judge = Judge(walk())
        lines = [("invariant",), ("number", 0, 1), label(0), ("number", 0, 3), label(0), label(0)]
        self.assertEqual([judge.line(line) for line in lines], ["right"] * 6)
        facts = (None, True)
        pieces = [piece for _, piece in judge.proof.pieces((facts, ((1, 5),)))]
        self.assertEqual(pieces, [(facts, ((1, 1),)), (facts, ((2, 3),)), (facts, ((4, 5),))])
        self.assertEqual([piece for _, piece in Judge(walk()).proof.pieces((facts, ((1, 5),)))], [(facts, ((1, 5),))])


class SumTest(unittest.TestCase):
    """Points 51 and 53 for sum layers."""

    half = (("fact", 0), label(0), ("number", 0, 4), label(2), label(1))

    def test_shares_reduce_costs(self):
        for p, q, v, answer in ((1, 1, 3, "right"), (1, 1, 4, "step"), (1, 2, 1, "right"), (1, 2, 2, "step"),
                                (2, 3, 2, "right"), (2, 3, 3, "step"), (0, 1, 0, "right"), (0, 1, 1, "step")):
            lines = (("sum",), ("tree", p, q), ("fact", 0), label(0), label(v))
            self.assertEqual(last(walk(cost=9), *lines), answer, (p, q, v))

    def test_the_share_of_one_step(self):
        lines = (("sum",), ("tree", 0, 1), ("share", 1, 2, 3), ("fact", 0), label(0), ("number", 0, 4))
        self.assertEqual(last(walk(), *lines, label(2), label(2)), "right")
        self.assertEqual(last(walk(), *lines, label(3), label(2)), "step")
        self.assertEqual(last(walk(), *lines, label(2), label(3)), "step")

    def test_shares_that_add_up_to_1(self):
        first = (("sum",), ("tree", 1, 2)) + self.half
        self.assertEqual(last(walk(), *first, ("tree", 1, 2), *self.half), "right")
        self.assertEqual(last(walk(), *first, ("tree", 1, 2), *self.half, ("claim", 4)), "right")
        thirds = (("tree", 1, 3), label(0))
        self.assertEqual(last(walk(), ("sum",), *thirds, *thirds, *thirds), "right")
        self.assertEqual(last(walk(), ("sum",), *thirds, *thirds, *thirds, *thirds), "share")
        self.assertEqual(last(walk(), ("sum",), *thirds, *thirds, ("tree", 2, 6), label(0)), "right")
        self.assertEqual(last(walk(), ("sum",), *thirds, *thirds, ("tree", 334, 1000), label(0)), "share")

    def test_one_step_is_enough_for_too_much(self):
        first = (("sum",), ("tree", 1, 2), ("share", 1, 1, 1), label(0))
        self.assertEqual(last(walk(), *first, ("tree", 1, 2), label(0)), "share")
        self.assertEqual(last(walk(), *first, ("tree", 1, 2), ("share", 1, 0, 5), label(0)), "right")
        self.assertEqual(last(walk(), *first, ("tree", 1, 10 ** 30), label(0)), "share")
        self.assertEqual(last(walk(), *first, ("tree", 0, 10 ** 30), label(0)), "right")

    def test_without_steps_no_share_is_too_much(self):
        lines = (("sum",), ("tree", 1, 1), label(0), ("tree", 1, 1), label(0))
        self.assertEqual(last(Task(goal=FALSE), *lines), "right")

    def test_other_layers_have_shares_of_their_own(self):
        self.assertEqual(last(walk(), *TREE, label(0), *TREE, label(0)), "right")
        self.assertEqual(last(walk(), *TREE, label(0), *LEAN, label(0)), "right")

    def test_a_tree_that_was_not_right_takes_no_share(self):
        task = walk()
        lines = [("sum",), ("tree", 1, 1), label(4), label(0), ("tree", 0, 1), label(0)]
        self.assertEqual(answers(task, lines), ["right", "right", "goal", "right", "right", "right"])


class ReasonsTest(unittest.TestCase):
    """The reasons of point 53, and their order."""

    full = (("sum",), ("tree", 1, 1), label(0))

    def test_each_reason_alone(self):
        self.assertEqual(last(walk(), *self.full, ("tree", 1, 1), label(0)), "share")
        self.assertEqual(last(walk(), *self.full, ("tree", 0, 1), label(1)), "goal")
        self.assertEqual(last(walk(), *self.full, ("tree", 0, 1), ("fact", 0), label(0), label(1)), "step")

    def test_two_reasons(self):
        self.assertEqual(last(walk(), *self.full, ("tree", 1, 1), label(1)), "share")
        self.assertEqual(last(walk(), *self.full, ("tree", 1, 1), ("fact", 0), label(0), label(9)), "share")
        self.assertEqual(last(walk(), *self.full, ("tree", 0, 1), ("fact", 0), label(1), label(9)), "goal")
        self.assertEqual(last(walk(), *self.full, ("tree", 1, 1), ("fact", 0), label(1), label(9)), "share")
        # A leaf with the reason "step" comes first, one with the reason "goal" after it.
        lines = (("number", 0, 2), ("fact", 0), label(0), label(None), label(1))
        self.assertEqual(last(walk(), *TREE, *lines), "goal")

    def test_the_goal_may_hold_in_a_box_without_holding_in_it(self):
        # In no state is n both more than m and less than m, but boxes do not tell.
        goal = ("and", (("lt", ("plus", (N, M)), whole(3)), ("gt", ("plus", (N, M)), whole(3))))
        task = Task(numbers=(("n", (), 0, 9), ("m", (), 0, 9)), goal=goal)
        self.assertEqual(last(task, *TREE, label(1)), "goal")
        self.assertEqual(last(task, *TREE, ("number", 0, 3), label(0), label(1)), "right")

    def test_a_step_to_the_same_leaf(self):
        zero = action("zero", effects=(), cost=whole(0))
        task = Task(facts=(("a", ()),), actions=(zero,), goal=fact("a"))
        self.assertEqual(last(task, *TREE, ("fact", 0), label(0), label(10 ** 9)), "right")
        self.assertEqual(last(task, *TREE, ("fact", 0), label(0), label(None)), "right")

    def test_the_least_cost_in_the_piece_counts(self):
        pay = action("pay", effects=(("make", "a", ()),), cost=("plus", (N, ONE)))
        task = Task(facts=(("a", ()),), numbers=(("n", (), 0, 9),), actions=(pay,), goal=fact("a"))
        self.assertEqual(last(task, *TREE, ("fact", 0), label(0), label(1)), "right")
        self.assertEqual(last(task, *TREE, ("fact", 0), label(0), label(2)), "step")
        lines = (("fact", 0), label(0), ("number", 0, 3), label(1), label(5))
        self.assertEqual(last(task, *TREE, *lines), "right")
        inside = (("invariant",), ("number", 0, 3), label(None), label(0))
        self.assertEqual(last(task, *inside, *TREE, ("fact", 0), label(0), label(5), state=((False,), (4,))), "right")
        self.assertEqual(last(task, *inside, *TREE, ("fact", 0), label(0), label(6), state=((False,), (4,))), "step")


class LeanTest(unittest.TestCase):
    """Points 52 and 53 for lean layers."""

    counting = (("fact", 0), label(0), ("number", 0, 4), label(5), label(3))

    def test_a_lean_layer_alone(self):
        self.assertEqual(last(walk(), *LEAN, *self.counting), "right")
        self.assertEqual(last(walk(), *LEAN, *self.counting[:3], label(6), label(3)), "step")
        self.assertEqual(last(walk(), *LEAN, label(1)), "goal")

    def test_earlier_layers_raise_what_follows(self):
        # The label of the leaf where n is 5 is 0; a layer before it knows that it is 3.
        lean = (("fact", 0), label(0), ("number", 0, 3), label(7), ("number", 0, 4), label(5), label(0))
        self.assertEqual(last(walk(), *LEAN, *lean), "step")
        self.assertEqual(last(walk(), *TREE, *self.counting, *LEAN, *lean), "right")
        lean = (("fact", 0), label(0), ("number", 0, 3), label(8), ("number", 0, 4), label(5), label(0))
        self.assertEqual(last(walk(), *TREE, *self.counting, *LEAN, *lean), "step")

    def test_sum_layers_do_not_rely_on_earlier_layers(self):
        tree = (("fact", 0), label(0), ("number", 0, 3), label(7), ("number", 0, 4), label(5), label(0))
        self.assertEqual(last(walk(), *TREE, *self.counting, *TREE, *tree), "step")

    def test_later_layers_and_the_layer_itself_do_not_count(self):
        lean = (("fact", 0), label(0), ("number", 0, 3), label(7), ("number", 0, 4), label(5), label(0))
        lines = (*LEAN, *lean[:-1], label(3), *LEAN, *lean)
        self.assertEqual(last(walk(), *lines), "right")

    def test_what_layers_know_is_the_greatest_of_their_totals(self):
        half = (("tree", 1, 2), ("fact", 0), label(0), ("number", 0, 4), label(1), label(1))
        low = (("fact", 0), label(0), ("number", 0, 4), label(4), label(0))
        lower = (("fact", 0), label(0), ("number", 0, 4), label(5), label(0))
        self.assertEqual(last(walk(), ("sum",), *half, *half, *LEAN, *low), "right")
        self.assertEqual(last(walk(), ("sum",), *half, *half, *LEAN, *lower), "step")
        self.assertEqual(last(walk(), ("sum",), *half, *half, *TREE, *self.counting, *LEAN, *lower), "right")
        self.assertEqual(last(walk(), *TREE, *self.counting, ("sum",), *half, *half, *LEAN, *lower), "right")

    def test_layers_without_trees_know_0(self):
        lean = (("fact", 0), label(0), label(3))
        self.assertEqual(last(walk(), ("sum",), ("lean",), *LEAN, *lean), "right")
        self.assertEqual(last(walk(), ("sum",), ("lean",), *LEAN, *lean[:-1], label(4)), "step")

    def test_earlier_layers_know_of_a_dead_end(self):
        # Step 0 loses a; then nothing leads to the goal.
        lose = action("lose", effects=(("unmake", "a", ()),), cost=whole(1))
        win = action("win", condition=fact("a"), effects=(("make", "b", ()),), cost=whole(7))
        task = Task(facts=(("a", ()), ("b", ())), actions=(lose, win), start=((("a", ()),), ()), goal=fact("b"))
        dead = (*TREE, ("fact", 1), label(0), ("fact", 0), label(0), label(None))
        tree = (("fact", 1), label(0), ("fact", 0), label(7), label(0))
        self.assertEqual(last(task, *dead, *LEAN, *tree), "right")
        self.assertEqual(last(task, *dead, *TREE, *tree), "step")
        self.assertEqual(last(task, *LEAN, *tree), "step")
        self.assertEqual(last(task, *dead, *LEAN, *tree, ("claim", 7)), "right")
        # In the lean layer None may stand before a label 0 that is known to be None.
        everywhere = (("fact", 1), label(0), ("fact", 0), label(0), label(None))
        self.assertEqual(last(task, *dead, *LEAN, *everywhere), "right")

    def test_what_is_known_of_the_common_box_counts(self):
        # The box after the step spans n from 0 to 9, the leaf with the label 0 only the values from 5 on.
        any_value = action("any", effects=(("when", fact("b"), (("set", "n", (), whole(9)),)),), cost=whole(1))
        win = action("win", condition=("eq", N, whole(9)), effects=(("make", "a", ()),), cost=whole(4))
        task = Task(facts=(("a", ()), ("b", ())), numbers=(("n", (), 0, 9),), actions=(any_value, win), goal=fact("a"))
        known = (("fact", 0), label(0), label(4))
        lean = (("fact", 0), label(0), ("number", 0, 4), label(5), label(0))
        self.assertEqual(last(task, *TREE, *known, *LEAN, *lean), "right")
        known = (("fact", 0), label(0), ("number", 0, 6), label(4), label(4))
        self.assertEqual(last(task, *TREE, *known, *LEAN, *lean), "right")
        known = (("fact", 0), label(0), ("number", 0, 6), label(0), label(4))
        self.assertEqual(last(task, *TREE, *known, *LEAN, *lean), "step")
        # What is known of values that are not in the leaf does not count.
        known = (("fact", 0), label(0), ("number", 0, 4), label(0), label(4))
        self.assertEqual(last(task, *TREE, *known, *LEAN, *lean), "right")

    def test_the_inside_bounds_what_is_known(self):
        win = action("win", condition=("eq", N, whole(9)), effects=(("make", "a", ()),), cost=whole(4))
        zero = action("zero", condition=("lt", N, whole(3)), effects=(("make", "b", ()),), cost=whole(1))
        task = Task(facts=(("a", ()), ("b", ())), numbers=(("n", (), 0, 9),), actions=(zero, win), goal=fact("a"))
        inside = (("invariant",), ("number", 0, 2), label(0), label(None))
        known = (("fact", 0), label(0), ("number", 0, 2), label(4), label(0))
        lean = (("fact", 0), label(0), ("fact", 1), label(0), label(5))
        self.assertEqual(last(task, *inside, *TREE, *known, *LEAN, *lean), "right")
        self.assertEqual(last(task, *inside, *LEAN, *lean), "step")


class NoPieceTest(unittest.TestCase):
    def test_a_box_without_pieces_has_the_least_label_none(self):
        judge = Judge(walk(goal=fact("b")))
        for line in (("invariant",), ("fact", 1), label(None), label(0), *TREE, label(7)):
            self.assertEqual(judge.line(line), "right")
        judge.line(("lean",))
        kept = judge.proof.layers[0].trees[0]
        for earlier in (None, judge.proof.layers[:1]):
            check = StepCheck(judge.proof, kept, earlier)
            self.assertIsNone(check.least_of(((None, True), ((0, 5),))))
            self.assertEqual(check.least_of(((None, None), ((0, 5),))), 7)


class DeepTest(unittest.TestCase):
    def test_a_very_deep_tree(self):
        judge = Judge(walk())
        for line in TREE + (("fact", 0), label(0)):
            judge.line(line)
        for _ in range(5000):
            self.assertEqual(judge.line(("number", 0, 9)), "right")
        self.assertEqual(judge.line(("label", 3)), "right")
        for _ in range(4999):
            self.assertEqual(judge.line(("label", 99)), "right")
        self.assertEqual(judge.line(("label", 99)), "right")
        self.assertEqual(judge.line(("claim", 3)), "right")

    def test_a_true_goal(self):
        self.assertEqual(last(walk(), *TREE, label(1), goal=TRUE), "goal")
        self.assertEqual(last(walk(), *TREE, label(0), goal=TRUE), "right")


if __name__ == "__main__":
    unittest.main()

"""Point 53: of all pieces and leaves that a step may lead to, the least label counts, wherever it stands."""

import unittest

from judgeoracle import SlowJudge
from samples import ONE, action, fact, number, whole
from sureplan.judge import Judge
from sureplan.tasks import Task

N = number("n")
# Two boxes inside: those in which the fact a holds, and those in which it does not.
BOTH = (("invariant",), ("fact", 0), ("label", 0), ("label", 0))
TREE = (("sum",), ("tree", 1, 1))


def label(v):
    return ("label", v)


def maybe(effect, goal):
    """One step, of which it is open in most boxes if it changes the fact a."""
    change = action("change", effects=(("when", ("ge", N, ONE), ((effect, "a", ()),)),), cost=ONE)
    return Task(facts=(("a", ()),), numbers=(("n", (), 0, 2),), actions=(change,), goal=goal)


class LeastTest(unittest.TestCase):
    def last(self, task, *lines):
        """The answer to the last line; the lines before are right."""
        judge, slow = Judge(task), SlowJudge(task, task.start_state(), task.goal)
        found = [judge.line(line) for line in lines]
        self.assertEqual(found, [slow.line(line) for line in lines])
        self.assertEqual(found[:-1], ["right"] * (len(lines) - 1))
        return found[-1]

    def test_the_least_label_in_the_first_piece(self):
        task = maybe("make", fact("a"))
        for before in ((), BOTH):
            for v, answer in ((1, "right"), (2, "step"), (5, "step"), (None, "step")):
                self.assertEqual(self.last(task, *before, *TREE, ("fact", 0), label(0), label(v)), answer)

    def test_the_least_label_in_the_last_piece(self):
        task = maybe("unmake", ("not", fact("a")))
        for before in ((), BOTH):
            for v, answer in ((1, "right"), (2, "step"), (5, "step"), (None, "step")):
                start = before + TREE + (("fact", 0), label(v))
                self.assertEqual(self.last(task, *start, label(0)), answer)

    def test_the_least_label_among_leaves_that_are_raised(self):
        # After the step c holds, and b is open: where b holds, the goal is 2 away, and otherwise 5.
        go = action("go", condition=("not", fact("c")), cost=ONE,
                    effects=(("make", "c", ()), ("when", ("ge", N, ONE), (("make", "b", ()),)),
                             ("when", ("lt", N, ONE), (("unmake", "b", ()),))))
        fast = action("fast", condition=("and", (fact("c"), fact("b"))), effects=(("make", "g", ()),), cost=whole(2))
        slow = action("slow", condition=("and", (fact("c"), ("not", fact("b")))), effects=(("make", "g", ()),),
                      cost=whole(5))
        task = Task(facts=(("g", ()), ("b", ()), ("c", ())), numbers=(("n", (), 0, 2),), actions=(go, fast, slow),
                    goal=fact("g"))
        known = TREE + (("fact", 0), label(0), ("fact", 2), ("fact", 1), label(0), label(5), label(0))
        lean = known + (("lean",), ("tree", 1, 1), ("fact", 0), label(0), ("fact", 2), ("fact", 1), label(2), label(1))
        for v, answer in ((3, "right"), (4, "step"), (6, "step")):
            self.assertEqual(self.last(task, *lean, label(v)), answer)
        # The same with the two leaves the other way round.
        known = TREE + (("fact", 0), label(0), ("fact", 2), ("fact", 1), label(2), label(0), label(0))
        lean = known + (("lean",), ("tree", 1, 1), ("fact", 0), label(0), ("fact", 2), ("fact", 1), label(1), label(5))
        for v, answer in ((3, "right"), (4, "step"), (6, "step")):
            self.assertEqual(self.last(task, *lean, label(v)), answer)

    def test_the_least_label_below_a_later_split(self):
        # After the step a and b are open, and there are leaves in all three of their boxes.
        parts = tuple(("when", (word, N, ONE), ((effect, name, ()),)) for name in ("a", "b")
                      for word, effect in (("ge", "make"), ("lt", "unmake")))
        mix = action("mix", condition=("not", fact("c")), effects=parts + (("make", "c", ()),), cost=ONE)
        goal = ("and", (fact("c"), ("not", fact("a")), fact("b")))
        task = Task(facts=(("a", ()), ("b", ()), ("c", ())), numbers=(("n", (), 0, 2),), actions=(mix,), goal=goal)
        # The splits have indexes from 0 to 2, and the labels before them are not less than these.
        for high in (1, 2, 7):
            start = TREE + (("fact", 2), ("fact", 0), label(high), ("fact", 1), label(0), label(5))
            for v, answer in ((1, "right"), (2, "step"), (high + 1, "step")):
                self.assertEqual(self.last(task, *start, label(v)), answer)
            start = TREE + (("fact", 2), ("fact", 1), ("fact", 0), label(high), label(0), label(high))
            for v, answer in ((1, "right"), (2, "step")):
                self.assertEqual(self.last(task, *start, label(v)), answer)


if __name__ == "__main__":
    unittest.main()

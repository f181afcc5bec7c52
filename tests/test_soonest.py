"""Points 87 and 88, and sureplan/soonest.py."""

import random
import unittest

import scheduleoracle
from samples import FailingCase, fact, whole
from sureplan.branching import MOST_LINES, Branching, order_of
from sureplan.errors import BadValue, NotPossible, TooLarge
from sureplan.jobs import Jobs
from sureplan.ownruns import OwnRun
from sureplan.schedules import schedule
from sureplan.soonest import accepts_soonest, soonest_certificate
from test_schedules import crews, drawn_case, put, shop, worker

LINES = [("apart", (0, 1)), ("chain", (0, 1)), ("chain", (1, 0))]


def accepts(task, time, lines, steps=None):
    steps = list(range(len(task.all_steps()))) if steps is None else steps
    found = accepts_soonest(task, steps, task.start_state(), time, lines)
    assert found == scheduleoracle.Facts(task, steps, task.start_state()).accepts(time, lines)
    return found


class AcceptsTest(unittest.TestCase):
    def test_the_example_of_the_document(self):
        task = crews()
        self.assertTrue(accepts_soonest(task, [0, 1, 2], task.start_state(), 5, LINES))
        self.assertFalse(accepts_soonest(task, [0, 1, 2], task.start_state(), 6, LINES))

    def test_chains_of_kept_pairs(self):
        task = worker(put("x", ("make", "a", ()), time=whole(2)), put("y", ("make", "b", ()), condition=fact("a")),
                      put("z", ("make", "c", ()), condition=fact("b"), time=whole(4)))
        self.assertTrue(accepts(task, 7, [("chain", (0, 1, 2))]))
        self.assertFalse(accepts(task, 8, [("chain", (0, 1, 2))]))
        # An implied pair is a kept pair, too.
        self.assertTrue(accepts(task, 6, [("chain", (0, 2))]))
        self.assertFalse(accepts(task, 6, [("chain", (2, 0))]))
        self.assertFalse(accepts(task, 7, [("chain", (0, 2, 1))]))
        self.assertFalse(accepts(task, 3, [("chain", (0, 0))]))

    def test_short_chains(self):
        task = shop([1], (2, 1), (3, 1))
        self.assertTrue(accepts(task, 3, [("chain", (1,))]))
        self.assertFalse(accepts(task, 3, [("chain", (0,))]))
        self.assertTrue(accepts(task, 0, [("chain", ())]))
        self.assertTrue(accepts(task, -5, [("chain", ())]))
        self.assertFalse(accepts(task, 1, [("chain", ())]))
        self.assertTrue(accepts(worker(), 0, [("chain", ())], []))
        self.assertFalse(accepts(worker(), 1, [("chain", ())], []))

    def test_a_pair_that_is_neither_kept_nor_known(self):
        task = shop([1], (2, 1), (3, 1), (1, 1))
        self.assertFalse(accepts(task, 1, [("chain", (0, 1))]))
        self.assertTrue(accepts(task, 5, LINES))
        self.assertFalse(accepts(task, 5, [("apart", (0, 1)), ("chain", (1, 0)), ("chain", (0, 1))]))
        # What is known in one child is not known in the next one.
        self.assertFalse(accepts(task, 5, [("apart", (0, 1)), ("chain", (0, 1)), ("chain", (0, 1))]))
        # Two known pairs do not make the pair that they imply known.
        lines = [("apart", (0, 1)), ("apart", (1, 2)), ("chain", (0, 1, 2)), ("chain", (2, 1)), ("chain", (1, 0))]
        self.assertTrue(accepts(task, 4, lines))
        self.assertFalse(accepts(task, 3, lines[:2] + [("chain", (0, 2))] + lines[3:]))

    def test_the_children_come_in_the_order_of_the_tuple(self):
        task = shop([2], (2, 1), (3, 1), (4, 1))
        pairs = [(2, 0), (2, 1), (0, 2), (0, 1), (1, 2), (1, 0)]
        lines = [("apart", (2, 0, 1))] + [("chain", pair) for pair in pairs]
        self.assertTrue(accepts(task, 5, lines))
        self.assertFalse(accepts(task, 6, lines))
        self.assertFalse(accepts(task, 5, [("apart", (0, 1, 2))] + lines[1:]))
        for place in range(1, 6):
            self.assertFalse(accepts(task, 5, lines[:place] + [lines[place + 1], lines[place]] + lines[place + 2:]))

    def test_what_is_known_further_up(self):
        task = shop([1], (2, 1), (3, 1), (4, 1))
        lines = [("apart", (0, 1)), ("apart", (1, 2)), ("chain", (0, 1, 2)), ("chain", (2, 1)), ("chain", (1, 0))]
        self.assertTrue(accepts(task, 5, lines))
        # The pair (1, 2) is known only in a part of the tree that is left behind.
        for chain in ((1, 2), (1, 2, 1), (0, 1), (2, 1, 0)):
            self.assertFalse(accepts(task, 5, lines[:4] + [("chain", chain)]))
        self.assertTrue(accepts(task, 5, lines[:3] + [("chain", (2, 1)), ("chain", (1, 0))]))
        self.assertFalse(accepts(task, 5, lines[:3] + [("chain", (1, 2)), ("chain", (1, 0))]))
        self.assertFalse(accepts(task, 5, lines[:3] + [("chain", (2, 1, 0)), ("chain", (1, 0))]))

    def test_positions_that_can_be_under_way_together(self):
        task = shop([3, 9], (2, 2), (3, 1), (4, 1), (1, 0, 9))
        for group in ((0, 1), (1, 2), (0, 3), (0, 1, 3)):
            many = len(group) * (len(group) - 1)
            self.assertFalse(accepts(task, 0, [("apart", group)] + [("chain", ())] * many), group)
        # Together they use one more than there is.
        self.assertTrue(accepts(task, 0, [("apart", (0, 1, 2))] + [("chain", ())] * 6))
        self.assertTrue(accepts(task, 0, [("apart", (0, 3, 1, 2))] + [("chain", ())] * 12))

    def test_positions_that_disturb_one_another(self):
        task = worker(put("x", ("make", "a", ())), put("y", ("unmake", "b", ())), put("z", ("make", "a", ())),
                      put("w", ("make", "c", ())))
        self.assertTrue(accepts(task, 2, [("apart", (2, 0)), ("chain", (2, 0)), ("chain", (0, 2))]))
        self.assertTrue(accepts(task, 0, [("apart", (3, 2, 0))] + [("chain", ())] * 6))
        self.assertFalse(accepts(task, 0, [("apart", (3, 2, 1))] + [("chain", ())] * 6))

    def test_wrong_forms(self):
        task = crews()
        chains = [("chain", ())] * 2
        self.assertTrue(accepts(task, 0, [("apart", (0, 1))] + chains))
        for line in (("apart", (0,)), ("apart", ()), ("apart", (1, 1)), ("apart", (0, 3)), ("apart", (-1, 0)),
                     ("apart", (0, 1, 0)), ("part", (0, 1)), ("", (0, 1)), ("Apart", (0, 1)), ("chain", (0, 1))):
            self.assertFalse(accepts(task, 0, [line] + chains), line)
            self.assertFalse(accepts(task, 0, [line]), line)
        for line in (("chain", (3,)), ("chain", (-1,)), ("leaf", ()), ("chains", ())):
            self.assertFalse(accepts(task, 0, [line]), line)
        # A step that by itself uses more than there is: it cannot be under way beside any other one.
        self.assertTrue(accepts(shop([1], (1, 2), (1, 0)), 0, [("apart", (0, 1))] + chains))
        self.assertFalse(accepts(shop([1], (1, 2), (1, 0)), 0, [("apart", (0,))]))
        self.assertFalse(accepts(shop([1], (1, 2), (1, 0)), 0, [("apart", (0,))] + chains))

    def test_lines_of_other_kinds(self):
        task = crews()
        for line in (None, 0, "chain", (), ("chain",), ("chain", (), ()), ["chain", ()], ("chain", []), ("chain", None),
                     ("chain", 0), ("chain", "0"), ("chain", ("0",)), ("chain", (True,)), ("chain", (None,)), ("chain", ((),)),
                     (None, ()), (0, ()), ("chain", (0.0,))):
            self.assertFalse(accepts_soonest(task, [0, 1, 2], task.start_state(), 0, [line]), line)
            self.assertFalse(accepts_soonest(task, [0, 1, 2], task.start_state(), 0, [("chain", ()), line]), line)

    def test_too_few_and_too_many_lines(self):
        task = crews()
        self.assertFalse(accepts(task, 0, []))
        self.assertFalse(accepts(task, 5, LINES[:2]))
        self.assertFalse(accepts(task, 5, LINES[:1]))
        self.assertFalse(accepts(task, 5, LINES + [("chain", (0,))]))
        self.assertFalse(accepts(task, 0, LINES + [("chain", ())]))
        self.assertFalse(accepts(task, 0, [("chain", ())] * 2))
        self.assertFalse(accepts(task, 0, [("chain", ()), ("apart", (0, 1))] + [("chain", ())]))

    def test_a_chain_with_a_position_several_times(self):
        # What is known contradicts the kept pair, so the chain can go round and round.
        task = worker(put("x", ("make", "a", ()), time=whole(2)), put("y", ("make", "b", ()), condition=fact("a")))
        lines = [("apart", (0, 1)), ("chain", (0, 1)), ("chain", (0, 1, 0, 1))]
        self.assertTrue(accepts(task, 3, lines))
        self.assertFalse(accepts(task, 4, lines))
        self.assertTrue(accepts(task, 3, lines[:2] + [("chain", (1, 0, 1, 0, 1, 0))]))
        self.assertFalse(accepts(task, 3, [lines[0], lines[2], lines[1]]))
        # A pair may be known both ways from two nodes above.
        task = shop([1], (2, 1), (3, 1))
        lines = [("apart", (0, 1)), ("apart", (0, 1)), ("chain", (0, 1)), ("chain", (0, 1, 0)), ("chain", (1, 0))]
        self.assertTrue(accepts(task, 5, lines))

    def test_many_lines(self):
        task = shop([1], (2, 1), (3, 1))
        for many in (1, 2499, 2500, 6000):
            # One node below another one, always in the first child.
            lines = [("apart", (0, 1))] * many + [("chain", (0, 1))] + [("chain", (1, 0))] * many
            self.assertTrue(accepts_soonest(task, [0, 1], task.start_state(), 5, lines))
            self.assertFalse(accepts_soonest(task, [0, 1], task.start_state(), 5, lines[:-1]))
            self.assertFalse(accepts_soonest(task, [0, 1], task.start_state(), 5, lines + lines[-1:]))
            self.assertFalse(accepts_soonest(task, [0, 1], task.start_state(), 6, lines))
        lines = [("chain", (0, 1, 0) * 2000)]
        self.assertFalse(accepts_soonest(task, [0, 1], task.start_state(), 5, lines))
        task = worker(put("x", ("make", "a", ())), put("y", condition=fact("a")))
        lines = [("apart", (0, 1)), ("chain", (0, 1)), ("chain", (0, 1) * 5000)]
        self.assertTrue(accepts_soonest(task, [0, 1], task.start_state(), 2, lines))

    def test_the_arguments_stay_as_they_are(self):
        steps, lines = [0, 1, 2], list(LINES)
        accepts_soonest(crews(), steps, crews().start_state(), 5, lines)
        self.assertEqual((steps, lines), ([0, 1, 2], LINES))


class CertificateTest(unittest.TestCase):
    def check(self, task, steps, state, seed=None):
        """The certificate is accepted for the time of the first schedule, and not for one more."""
        found = schedule(task, steps, state)
        lines = soonest_certificate(task, steps, state)
        if found is None:
            self.assertIsNone(lines, seed)
            return
        self.assertIsInstance(lines, list)
        self.assertLessEqual(len(lines), MOST_LINES)
        facts = scheduleoracle.Facts(task, steps, state) if len(steps) < 6 else None
        for time, expected in ((found[0], True), (found[0] + 1, False)):
            self.assertEqual(accepts_soonest(task, steps, state, time, lines), expected, seed)
            if facts is not None:
                self.assertEqual(facts.accepts(time, lines), expected, seed)

    def test_the_example_of_the_document(self):
        self.check(crews(), [0, 1, 2], crews().start_state())

    def test_no_schedule_and_no_steps(self):
        task = shop([1], (2, 2), (3, 1))
        self.assertIsNone(soonest_certificate(task, [0, 1], task.start_state()))
        self.assertIsNone(soonest_certificate(task, [0], task.start_state()))
        self.check(task, [1], task.start_state())
        self.check(task, [], task.start_state())

    def test_drawn_steps(self):
        for seed in range(100):
            task, state, steps = drawn_case(random.Random(seed), 6, 10 ** 9)
            self.check(task, steps, state, seed)

    def test_drawn_shops(self):
        for seed in range(30):
            source = random.Random(seed)
            capacities = [source.randint(1, 6) for _ in range(source.randint(1, 2))]
            rows = [(source.randint(1, 9),) + tuple(source.randint(0, top) for top in capacities) for _ in range(6)]
            task = shop(capacities, *rows)
            self.check(task, list(range(6)), task.start_state(), seed)

    def test_large_trees(self):
        # Two at a time: half of the whole time is not enough, which takes many lines to show.
        for times in ((1, 2, 1, 1, 1, 1), (5, 6, 6, 7, 7, 8)):
            task = shop([2], *[(time, 1) for time in times])
            self.check(task, list(range(6)), task.start_state())
        # One at a time: every order has its own leaf.
        task = shop([1], *[(time, 1) for time in range(1, 7)])
        self.check(task, list(range(6)), task.start_state())

    def test_the_smallest_tree(self):
        # A quick tree is taken if it is not too large, and otherwise the smallest one.
        task = shop([2], *[(time, 1) for time in (1, 2, 1, 1, 1, 1)])
        jobs = Jobs(task, OwnRun(task, list(range(6)), task.start_state(), 6))
        branching = Branching(jobs, 4)
        root = order_of(jobs.kept, 6)
        self.assertIsNone(branching.lines(root, True))
        self.assertEqual(len(branching.lines(root, False)), branching.smallest_tree(root)[0])
        task = shop([2], (2, 1), (2, 1), (3, 1), (1, 1))
        jobs = Jobs(task, OwnRun(task, list(range(4)), task.start_state(), 6))
        end = schedule(task, [0, 1, 2, 3], task.start_state())[0]
        for is_quick in (True, False):
            lines = Branching(jobs, end).lines(order_of(jobs.kept, 4), is_quick)
            self.assertTrue(accepts(task, end, lines))

    def test_no_list_of_lines_is_accepted_for_one_more(self):
        for seed in range(60):
            source = random.Random(seed)
            task, state, steps = drawn_case(source, 4, 30)
            found = schedule(task, steps, state)
            if found is None:
                continue
            lines = soonest_certificate(task, steps, state)
            facts = scheduleoracle.Facts(task, steps, state)
            for _ in range(40):
                changed = list(lines)
                for _ in range(source.randint(1, 3)):
                    self.change(source, changed, len(steps))
                self.assertFalse(accepts_soonest(task, steps, state, found[0] + 1, changed), (seed, changed))
                time = source.randint(0, found[0])
                self.assertEqual(accepts_soonest(task, steps, state, time, changed), facts.accepts(time, changed),
                                 (seed, changed))

    def change(self, source, lines, many):
        at = source.randrange(len(lines))
        chosen = tuple(source.choice(range(-1 if source.random() < 0.02 else 0, many))
                       for _ in range(source.randint(0, 4)))
        line = (source.choice(("apart", "chain", "chain")), chosen)
        how = source.randint(0, 3)
        if how == 0:
            lines[at] = line
        elif how == 1:
            lines.insert(at, line)
        elif how == 2 and len(lines) > 1:
            del lines[at]
        else:
            lines[at] = (lines[at][0], tuple(reversed(lines[at][1])))

    def test_too_large(self):
        # No list of steps is known that needs more lines, so the trees are made too large here.
        task = shop([1], (2, 1), (3, 1))
        lines = Branching.lines
        try:
            Branching.lines = lambda branching, order, is_quick: None
            with self.assertRaises(TooLarge) as caught:
                soonest_certificate(task, [0, 1], task.start_state())
        finally:
            Branching.lines = lines
        self.assertEqual(caught.exception.what, "certificate")

    def test_a_returned_list_is_new(self):
        task = crews()
        lines = soonest_certificate(task, [0, 1, 2], task.start_state())
        copy = list(lines)
        lines.clear()
        self.assertEqual(soonest_certificate(task, [0, 1, 2], task.start_state()), copy)


class ErrorsTest(FailingCase):
    """Point 75."""

    functions = (soonest_certificate, lambda task, steps, state: accepts_soonest(task, steps, state, 0, []))

    def test_the_errors_in_their_order(self):
        never = worker(put("never", condition=("false",)))
        start = never.start_state()
        for steps in (None, (0,), [1], [True], [0] * 7 + [-1]):
            for state in (None, start):
                for caught in self.fails(BadValue, never, steps, state):
                    self.assertEqual(caught.name, "steps")
        for state in (None, start):
            for caught in self.fails(TooLarge, never, [0] * 7, state):
                self.assertEqual(caught.what, "steps")
        for steps in ([], [0], [0] * 6):
            for caught in self.fails(BadValue, never, steps, None):
                self.assertEqual(caught.name, "state")
        for caught in self.fails(NotPossible, never, [0], start):
            self.assertEqual((caught.position, caught.reason), (0, ("condition",)))


if __name__ == "__main__":
    unittest.main()

"""Points 63 and 72, and sureplan/groups.py."""

import random
import unittest

import boundoracle
from randoms import Draw, lively_case
from samples import action, fact
from sureplan.errors import BadValue, TooManyStates
from sureplan.groups import groups
from sureplan.search import reached_states
from sureplan.tasks import Task
from test_certificates import grid
from test_outline import errand


def turning(many, extra=(), start=(0,)):
    """Facts f0, f1, .. of which one holds after the other, and further facts."""
    facts = tuple((f"f{k}", ()) for k in range(many)) + tuple((name, ()) for name in extra)
    turns = tuple(action(f"turn{k}", condition=fact(f"f{k}"), effects=(("unmake", f"f{k}", ()),
                                                                       ("make", f"f{(k + 1) % many}", ())))
                  for k in range(many))
    return facts, turns, (tuple((f"f{k}", ()) for k in start), ())


class GroupsTest(unittest.TestCase):
    def test_the_worked_example(self):
        self.assertEqual(groups(errand(), ((True, False), (5,))), [([0, 1], True)])
        # Without fuel only one of the facts ever holds.
        self.assertEqual(groups(errand(), ((True, False), (1,))), [])

    def test_three_facts(self):
        facts, turns, start = turning(3)
        task = Task(facts=facts, actions=turns, start=start)
        self.assertEqual(groups(task, task.start_state()), [([0, 1, 2], True)])

    def test_two_hold_at_once(self):
        facts, turns, start = turning(3, start=(0, 1))
        task = Task(facts=facts, actions=turns, start=start)
        self.assertEqual(groups(task, task.start_state()), [])

    def test_groups_that_are_not_exact(self):
        facts, turns, start = turning(2)
        lose = action("lose", condition=fact("f1"), effects=(("unmake", "f1", ()),))
        task = Task(facts=facts, actions=turns + (lose,), start=start)
        self.assertEqual(groups(task, task.start_state()), [([0, 1], False)])
        self.assertEqual(groups(task, ((False, False), ())), [])

    def test_facts_that_never_hold_are_not_considered(self):
        facts, turns, start = turning(2)
        task = Task(facts=(("never", ()),) + facts + (("too", ()),), actions=turns, start=start)
        self.assertEqual(groups(task, task.start_state()), [([1, 2], True)])
        self.assertEqual(groups(task, ((True, True, False, False), ())), [([1, 2], True)])
        self.assertEqual(groups(Task(facts=facts), ((False, False), ())), [])

    def test_a_fact_goes_to_the_first_list_that_it_fits(self):
        # Reached: {a, d}, {b}, {c, b}: a excludes b and c; d, too; b and c hold together.
        facts = tuple((name, ()) for name in "abcd")
        first = action("first", condition=fact("a"),
                       effects=(("unmake", "a", ()), ("unmake", "d", ()), ("make", "b", ())))
        second = action("second", condition=fact("b"), effects=(("make", "c", ()),))
        task = Task(facts=facts, actions=(first, second))
        state = ((True, False, False, True), ())
        self.assertEqual(groups(task, state), [([0, 1], True), ([2, 3], False)])

    def test_a_later_fact_must_exclude_all_before_it(self):
        # a and b exclude each other, b and c, too; a and c hold together.
        facts = tuple((name, ()) for name in "abc")
        swap = action("swap", condition=fact("a"),
                      effects=(("unmake", "a", ()), ("unmake", "c", ()), ("make", "b", ())))
        task = Task(facts=facts, actions=(swap,))
        self.assertEqual(groups(task, ((True, False, True), ())), [([0, 1], True)])

    def test_drawn_tasks(self):
        for seed in range(150):
            source = random.Random(seed)
            task, state, _ = lively_case(source, facts=5, numbers=1)
            self.assertEqual(groups(task, state), boundoracle.groups(task, reached_states(task, state)), seed)
            draw = Draw(source)
            task = draw.task()
            state = draw.state(task)
            self.assertEqual(groups(task, state), boundoracle.groups(task, reached_states(task, state)), seed)

    def test_no_facts(self):
        self.assertEqual(groups(Task(), ((), ())), [])

    def test_returned_lists_are_new(self):
        task = errand()
        state = ((True, False), (5,))
        found = groups(task, state)
        found[0][0].append(9)
        found.append(1)
        self.assertEqual(groups(task, state), [([0, 1], True)])

    def test_errors(self):
        for state in (None, 0, ((True,), (5,)), ((True, False), (6,)), [(True, False), (5,)]):
            with self.assertRaises(BadValue) as caught:
                groups(errand(), state)
            self.assertEqual(caught.exception.name, "state")
        task = grid(8)
        self.assertEqual(groups(task, task.start_state()), [])
        task = grid(1, True)
        with self.assertRaises(TooManyStates) as caught:
            groups(task, task.start_state())
        self.assertEqual(caught.exception.limit, 3000)
        # From a later state fewer states are reached.
        self.assertEqual(groups(task, ((False,), (1, 0))), [])


if __name__ == "__main__":
    unittest.main()

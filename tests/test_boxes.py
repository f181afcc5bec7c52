"""Points 35 and 36, and sureplan/boxes.py."""

import itertools
import random
import unittest

from boxoracle import states_in
from samples import world
from sureplan.boxes import box_of_state, common_box, hull, in_box, lies_in, meets, whole_box
from sureplan.tasks import Task

ENTRIES = (None, True, False)


def facts(*entries):
    return (entries, ())


def spans(*pairs):
    return ((), pairs)


def drawn(source, many=2):
    found = []
    for _ in range(many):
        found.append(tuple(sorted((source.randint(-2, 2), source.randint(-2, 2)))))
    return (tuple(source.choice(ENTRIES) for _ in range(many)), tuple(found))


class ExampleTest(unittest.TestCase):
    def test_example_of_the_document(self):
        first = ((True, None), ((0, 5),))
        second = ((None, None), ((3, 9),))
        self.assertEqual(common_box(first, second), ((True, None), ((3, 5),)))
        self.assertEqual(hull(first, second), ((None, None), ((0, 9),)))
        self.assertIsNone(common_box(first, ((False, None), ((0, 5),))))
        self.assertIsNone(common_box(first, ((True, None), ((6, 9),))))


class WholeBoxTest(unittest.TestCase):
    def test_whole_box(self):
        self.assertEqual(whole_box(world()), ((None,) * 9, ((0, 9), (-2, 5), (-2, 5))))
        self.assertEqual(whole_box(Task()), ((), ()))
        self.assertEqual(whole_box(Task(facts=(("a", ()),))), ((None,), ()))
        self.assertEqual(whole_box(Task(numbers=(("n", (), 3, 3),))), ((), ((3, 3),)))


class BoxOfStateTest(unittest.TestCase):
    def test_box_of_state(self):
        self.assertEqual(box_of_state(((True, False), (3, -1))), ((True, False), ((3, 3), (-1, -1))))
        self.assertEqual(box_of_state(((), ())), ((), ()))


class FactEntriesTest(unittest.TestCase):
    def test_every_pair_of_entries(self):
        common = {(None, None): None, (None, True): True, (None, False): False, (True, True): True, (False, False): False}
        for first, second in itertools.product(ENTRIES, ENTRIES):
            one, other = facts(first), facts(second)
            if {first, second} == {True, False}:
                self.assertIsNone(common_box(one, other))
            else:
                expected = common.get((first, second), common.get((second, first)))
                self.assertEqual(common_box(one, other), facts(expected))
            self.assertEqual(hull(one, other), facts(first if first == second else None))
            self.assertIs(lies_in(one, other), second is None or first == second)
        for holds, entry in itertools.product((True, False), ENTRIES):
            self.assertIs(in_box(((holds,), ()), facts(entry)), entry is None or entry == holds)


class SpansTest(unittest.TestCase):
    def test_common(self):
        self.assertEqual(common_box(spans((0, 3)), spans((3, 9))), spans((3, 3)))
        self.assertEqual(common_box(spans((3, 9)), spans((0, 3))), spans((3, 3)))
        self.assertIsNone(common_box(spans((0, 3)), spans((4, 9))))
        self.assertIsNone(common_box(spans((4, 9)), spans((0, 3))))
        self.assertEqual(common_box(spans((0, 9)), spans((2, 3))), spans((2, 3)))
        self.assertIsNone(common_box(spans((0, 9), (1, 1)), spans((2, 3), (2, 2))))

    def test_hull(self):
        self.assertEqual(hull(spans((0, 1)), spans((7, 9))), spans((0, 9)))
        self.assertEqual(hull(spans((7, 9), (-5, 4)), spans((0, 1), (-3, 8))), spans((0, 9), (-5, 8)))

    def test_lies_in(self):
        for first, second, expected in (((2, 3), (2, 3), True), ((2, 3), (1, 3), True), ((2, 3), (2, 4), True),
                                        ((2, 3), (3, 3), False), ((2, 3), (2, 2), False), ((1, 4), (2, 3), False)):
            self.assertIs(lies_in(spans(first), spans(second)), expected)

    def test_in_box(self):
        for value, expected in ((1, False), (2, True), (3, True), (4, True), (5, False)):
            self.assertIs(in_box(((), (value,)), spans((2, 4))), expected)


class NothingTest(unittest.TestCase):
    def test_no_facts_and_no_numbers(self):
        empty = ((), ())
        self.assertEqual(common_box(empty, empty), empty)
        self.assertEqual(hull(empty, empty), empty)
        self.assertIs(lies_in(empty, empty), True)
        self.assertIs(in_box(empty, empty), True)

    def test_more_than_a_task_may_have(self):
        many = ((None, True) * 500, ((0, 1000000000),) * 100)
        state = ((True, True) * 500, (5,) * 100)
        self.assertIs(in_box(state, many), True)
        self.assertIs(lies_in(box_of_state(state), many), True)
        self.assertEqual(common_box(many, box_of_state(state)), box_of_state(state))
        self.assertEqual(hull(many, box_of_state(state)), many)


class StatesTest(unittest.TestCase):
    """The boxes as the sets of states that they describe."""

    def test_drawn_boxes(self):
        source = random.Random(11)
        for _ in range(300):
            first, second = drawn(source), drawn(source)
            one, other = set(states_in(first)), set(states_in(second))
            common = common_box(first, second)
            self.assertEqual(set(states_in(common)) if common else set(), one & other)
            self.assertIs(meets(first, second), bool(one & other))
            self.assertIs(lies_in(first, second), one <= other)
            both = hull(first, second)
            self.assertTrue(one | other <= set(states_in(both)))
            for index, entry in enumerate(both[0]):
                self.assertEqual(entry is None, len({state[0][index] for state in one | other}) == 2)
            for index, span in enumerate(both[1]):
                found = [state[1][index] for state in one | other]
                self.assertEqual(span, (min(found), max(found)))
            for state in states_in(((None, None), ((-3, 3), (-3, 3)))):
                self.assertIs(in_box(state, first), state in one)


if __name__ == "__main__":
    unittest.main()

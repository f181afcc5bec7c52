"""Points 105 to 111, and sureplan/desk.py."""

import random
import unittest
from unittest import mock

import oracle
import restoracle
from randoms import Lively, lively_case
from samples import FALSE, ONE, TRUE, action, fact, number, whole
from sureplan.desk import Desk
from sureplan.errors import BadValue, NotPossible, TooLarge, TooManyStates
from sureplan.search import first_plan
from sureplan.tasks import Task

N = number("n")


def put(name, *effects, condition=TRUE, cost=ONE):
    return action(name, condition=condition, effects=effects, cost=cost)


def trip():
    """The example of the interface."""
    go = ("go", (), ("fact", "home", ()), (("unmake", "home", ()), ("make", "shop", ()), ("take", "coins", (), ("int", 1))),
          ("int", 2), ("int", 1), ())
    return Task(facts=(("home", ()), ("shop", ())), numbers=(("coins", (), 0, 9),), actions=(go,),
                start=((("home", ()),), (("coins", (), 3),)), goal=("fact", "shop", ()))


def counter(most=9, goal=("eq", N, whole(5)), *actions):
    """A number n from 0 to `most`; step 0 adds 1 at a cost of 2, step 1 takes 1 at a cost of 3, step 2 does nothing."""
    return Task(facts=(("a", ()),), numbers=(("n", (), 0, most),), goal=goal,
                actions=(put("up", ("add", "n", (), ONE), cost=whole(2)), put("down", ("take", "n", (), ONE), cost=whole(3)),
                         put("idle", cost=whole(0))) + actions)


def at(n, *names):
    return (("a" in names,), (n,))


def seen_of(desk):
    """All that can be seen of a desk without changing it."""
    return (desk.current, desk.cost, desk.walked(), desk.searches, desk.at_goal())


class MovesTest(unittest.TestCase):
    """Points 105 to 107."""

    def test_the_example_of_the_interface(self):
        desk = Desk(trip())
        self.assertEqual(desk.plan(), (2, [0]))
        self.assertEqual(desk.go([0]), (2, ((False, True), (2,)), True))
        self.assertEqual(desk.cost, 2)
        self.assertEqual(desk.observe((("fact", 0, True), ("number", 0, 9))), ((True, True), (9,)))
        self.assertEqual(desk.undo(), "observe")
        self.assertEqual(desk.undo(), "go")
        self.assertEqual(desk.walked(), [])

    def test_a_new_desk(self):
        task = trip()
        desk = Desk(task)
        self.assertIs(desk.task, task)
        self.assertEqual(desk.searches, 0)
        self.assertEqual(seen_of(desk), (task.start_state(), 0, [], 0, False))
        self.assertIsNone(desk.undo())
        self.assertIs(Desk(counter(9, TRUE)).at_goal(), True)

    def test_go(self):
        desk = Desk(counter())
        self.assertEqual(desk.go([0, 0, 1]), (7, at(1), False))
        self.assertEqual(desk.go([0, 0, 0, 0]), (8, at(5), True))
        self.assertEqual(seen_of(desk), (at(5), 15, [0, 0, 1, 0, 0, 0, 0], 0, True))
        self.assertEqual(desk.go([]), (0, at(5), True))
        self.assertEqual(desk.go([2]), (0, at(5), True))
        self.assertEqual(desk.walked(), [0, 0, 1, 0, 0, 0, 0, 2])
        # A move that carries out nothing can be undone, too.
        self.assertEqual([desk.undo() for _ in range(5)], ["go"] * 4 + [None])
        self.assertEqual(seen_of(desk), (at(0), 0, [], 0, False))

    def test_costs_of_the_states(self):
        desk = Desk(Task(numbers=(("n", (), 0, 9),), actions=(put("up", ("add", "n", (), ONE), cost=N),)))
        self.assertEqual(desk.go([0, 0, 0]), (3, ((), (3,)), True))
        self.assertEqual(desk.go([0]), (3, ((), (4,)), True))
        self.assertEqual(desk.cost, 6)

    def test_observe(self):
        desk = Desk(counter())
        desk.go([0])
        self.assertEqual(desk.observe((("fact", 0, True), ("number", 0, 5))), at(5, "a"))
        self.assertEqual(seen_of(desk), (at(5, "a"), 2, [0], 0, True))
        self.assertEqual(desk.observe(()), at(5, "a"))
        self.assertEqual(desk.observe((("fact", 0, False),)), at(5))
        self.assertEqual([desk.undo() for _ in range(5)], ["observe"] * 3 + ["go", None])

    def test_restart(self):
        desk = Desk(counter())
        desk.go([0, 0])
        desk.observe((("number", 0, 7),))
        self.assertEqual(desk.restart(), at(0))
        self.assertEqual(seen_of(desk), (at(0), 0, [], 0, False))
        self.assertEqual(desk.restart(at(5, "a")), at(5, "a"))
        self.assertEqual(seen_of(desk), (at(5, "a"), 0, [], 0, True))
        self.assertEqual(desk.go([1]), (3, at(4, "a"), False))
        self.assertEqual([desk.undo() for _ in range(3)], ["go", "restart", "restart"])
        # The list of steps and the cost come back, too.
        self.assertEqual(seen_of(desk), (at(7), 4, [0, 0], 0, False))
        self.assertEqual([desk.undo() for _ in range(3)], ["observe", "go", None])

    def test_refused_moves_change_nothing(self):
        desk = Desk(counter())
        desk.go([0, 0])
        desk.plan()
        before = seen_of(desk)
        for error, call in ((NotPossible, lambda: desk.go([0, 1, 1, 1, 1])), (BadValue, lambda: desk.go([3])),
                            (BadValue, lambda: desk.observe((("fact", 1, True),))), (BadValue, lambda: desk.restart(at(10))),
                            (BadValue, lambda: desk.pursue(0))):
            with self.assertRaises(error):
                call()
            self.assertEqual(seen_of(desk), before)
        self.assertEqual([desk.undo(), desk.undo()], ["go", None])

    def test_the_errors_of_go(self):
        desk = Desk(counter())
        for steps in (None, (0,), "0", 0, {}, [3], [-1], [0, 3], [True], [None], ["0"], [0] * 101, [1] * 101):
            with self.assertRaises(BadValue) as caught:
                desk.go(steps)
            self.assertEqual(caught.exception.name, "steps")
        for steps, position, reason in (([1], 0, ("range", 0)), ([0, 1, 1, 3], None, None), ([0, 1, 1, 0], 2, ("range", 0))):
            with self.assertRaises(BadValue if position is None else NotPossible) as caught:
                desk.go(steps)
            if position is not None:
                self.assertEqual((caught.exception.position, caught.exception.reason), (position, reason))
        self.assertEqual(seen_of(desk), (at(0), 0, [], 0, False))

    def test_1000_steps_and_one_more(self):
        desk = Desk(counter())
        for _ in range(9):
            desk.go([2] * 100)
        desk.go([2] * 99)
        with self.assertRaises(TooLarge) as caught:
            desk.go([2, 2])
        self.assertEqual(caught.exception.what, "walked")
        # This comes before a step that is not possible, and after a wrong list.
        with self.assertRaises(TooLarge):
            desk.go([1, 2])
        with self.assertRaises(BadValue):
            desk.go([2, 3])
        with self.assertRaises(NotPossible):
            desk.go([1])
        self.assertEqual(len(desk.walked()), 999)
        desk.go([0])
        self.assertEqual((len(desk.walked()), desk.cost), (1000, 2))
        for steps in ([2], [1, 1]):
            with self.assertRaises(TooLarge):
                desk.go(steps)
        self.assertEqual(desk.go([]), (0, at(1), False))
        self.assertEqual(desk.undo(), "go")
        desk.restart(at(3))
        self.assertEqual(desk.go([0]), (2, at(4), False))
        desk.undo()
        desk.undo()
        desk.undo()
        self.assertEqual((len(desk.walked()), desk.current), (999, at(0)))
        self.assertEqual(desk.go([0]), (2, at(1), False))

    def test_the_errors_of_observe_and_restart(self):
        desk = Desk(counter())
        for seen in (None, [], [("fact", 0, True)], (("fact", 0, 1),), (("fact", 1, True),), (("number", 0, 10),),
                     (("number", 0, True),), (("fact", 0, True), ("fact", 0, True)), "x"):
            with self.assertRaises(BadValue) as caught:
                desk.observe(seen)
            self.assertEqual(caught.exception.name, "seen")
        for state in (0, False, (), at(10), at(-1), [(False,), (0,)], ((0,), (0,)), ((False,), (True,))):
            with self.assertRaises(BadValue) as caught:
                desk.restart(state)
            self.assertEqual(caught.exception.name, "state")
        self.assertIsNone(desk.undo())

    def test_lists_that_are_changed_after_the_call(self):
        desk = Desk(counter())
        steps = [0, 0]
        desk.go(steps)
        steps.append(1)
        desk.walked().clear()
        self.assertEqual(desk.walked(), [0, 0])
        desk.go(desk.walked())
        self.assertEqual(desk.walked(), [0, 0, 0, 0])

    def test_current_and_cost_cannot_be_set(self):
        desk = Desk(counter())
        for name in ("current", "cost"):
            self.assertIsInstance(vars(Desk)[name], property)
            with self.assertRaises(AttributeError):
                setattr(desk, name, 0)


class UndoTest(unittest.TestCase):
    """Point 106."""

    def test_100_moves_and_101(self):
        for moves in (99, 100, 101, 250):
            desk = Desk(counter(200))
            for move in range(moves):
                if move % 3 == 0:
                    desk.observe((("number", 0, move % 200),))
                else:
                    desk.go([2])
            states = [desk.current]
            undone = 0
            while desk.undo() is not None:
                undone += 1
                states.append(desk.current)
            self.assertEqual(undone, min(moves, 100))
            if moves > 100:
                # The oldest moves can never be undone.
                self.assertIn(desk.current, (at((moves - 101) // 3 * 3 % 200), at(0)))
                self.assertEqual(len(desk.walked()), len([move for move in range(moves - 100) if move % 3]))
            else:
                self.assertEqual(desk.current, at(0))

    def test_undoing_is_not_a_move(self):
        desk = Desk(counter())
        for _ in range(3):
            desk.go([0])
            self.assertEqual(desk.undo(), "go")
        self.assertIsNone(desk.undo())
        desk.go([0])
        desk.go([0])
        desk.undo()
        desk.observe(())
        self.assertEqual([desk.undo() for _ in range(3)], ["observe", "go", None])

    def test_a_forgotten_move_stays_forgotten(self):
        desk = Desk(counter())
        for _ in range(101):
            desk.go([2])
        for _ in range(50):
            desk.undo()
        for _ in range(10):
            desk.observe(())
        names = []
        while True:
            name = desk.undo()
            if name is None:
                break
            names.append(name)
        self.assertEqual(names, ["observe"] * 10 + ["go"] * 50)
        self.assertEqual(len(desk.walked()), 1)

    def test_after_pursue(self):
        desk = Desk(counter())
        desk.pursue(3)
        self.assertEqual(desk.undo(), "go")
        self.assertEqual(seen_of(desk), (at(0), 0, [], 1, False))


class PlanTest(unittest.TestCase):
    """Points 108, 109 and 111."""

    def test_every_state_is_searched_once(self):
        desk = Desk(counter())
        self.assertEqual(desk.plan(), (10, [0] * 5))
        self.assertEqual(desk.plan(), (10, [0] * 5))
        self.assertEqual(desk.searches, 1)
        desk.go([0])
        self.assertEqual(desk.searches, 1)
        # Nothing is kept of the states that the plan passes.
        self.assertEqual(desk.plan(), (8, [0] * 4))
        self.assertEqual(desk.searches, 2)
        desk.undo()
        desk.plan()
        desk.observe((("number", 0, 1),))
        desk.plan()
        desk.restart(at(1))
        desk.plan()
        self.assertEqual(desk.searches, 2)
        desk.observe((("fact", 0, True),))
        desk.plan()
        self.assertEqual(desk.searches, 3)

    def test_it_never_searches_twice(self):
        searched = []

        def counting(task, state):
            searched.append(state)
            return first_plan(task, state)
        with mock.patch("sureplan.desk.first_plan", counting):
            for goal in (("eq", N, whole(2)), FALSE):
                desk = Desk(counter(9, goal))
                for _ in range(2):
                    desk.plan()
                    desk.pursue()
                    desk.copy().plan()
                    desk.restart()
                self.assertEqual(len(searched), desk.searches + (goal != FALSE) * 2)
                searched.clear()

    def test_plans_that_do_not_exist(self):
        desk = Desk(counter(9, fact("a")))
        self.assertIsNone(desk.plan())
        self.assertIsNone(desk.plan())
        self.assertIsNone(desk.pursue())
        self.assertEqual(desk.searches, 1)
        self.assertIsNone(desk.undo())
        desk.go([0])
        self.assertIsNone(desk.pursue())
        self.assertIsNone(desk.pursue())
        self.assertEqual(desk.searches, 2)
        self.assertEqual([desk.undo(), desk.undo()], ["go", None])

    def test_too_many_states(self):
        grid = Task(facts=(("a", ()),), numbers=(("m", (), 0, 60), ("n", (), 0, 49)),
                    actions=(put("upm", ("add", "m", (), ONE)), put("upn", ("add", "n", (), ONE))))
        desk = Desk(grid)
        for call in (desk.plan, desk.pursue, desk.plan):
            with self.assertRaises(TooManyStates) as caught:
                call()
            self.assertEqual(caught.exception.limit, 3000)
        self.assertEqual((desk.searches, desk.undo()), (0, None))
        with self.assertRaises(BadValue):
            desk.pursue(101)
        desk.go([0])
        self.assertEqual(desk.plan(), (0, []))
        self.assertEqual(desk.searches, 1)
        desk.undo()
        with self.assertRaises(TooManyStates):
            desk.plan()
        self.assertEqual(desk.searches, 1)

    def test_returned_plans_that_are_changed(self):
        desk = Desk(counter())
        desk.plan()[1].clear()
        self.assertEqual(desk.plan(), (10, [0] * 5))
        self.assertEqual(desk.pursue(), (10, at(5), True))
        self.assertEqual(desk.walked(), [0] * 5)

    def test_pursue(self):
        desk = Desk(counter())
        self.assertEqual(desk.pursue(2), (4, at(2), False))
        self.assertEqual(desk.pursue(1), (2, at(3), False))
        self.assertEqual(desk.pursue(), (4, at(5), True))
        self.assertEqual(seen_of(desk), (at(5), 10, [0] * 5, 3, True))
        # An empty plan is a move that carries out no steps.
        self.assertEqual(desk.pursue(), (0, at(5), True))
        self.assertEqual(desk.searches, 4)
        self.assertEqual([desk.undo() for _ in range(5)], ["go"] * 4 + [None])
        self.assertEqual(desk.pursue(5), (10, at(5), True))
        desk.restart()
        self.assertEqual(desk.pursue(100), (10, at(5), True))
        self.assertEqual(desk.searches, 4)

    def test_wrong_arguments(self):
        desk = Desk(counter())
        for most in (0, -1, 101, None, True, False, "1", 1.0, (), [1]):
            with self.assertRaises(BadValue) as caught:
                desk.pursue(most)
            self.assertEqual(caught.exception.name, "most")
        self.assertEqual(desk.searches, 0)

    def test_a_plan_of_more_than_100_steps(self):
        desk = Desk(counter(200, ("eq", N, whole(150))))
        self.assertEqual(desk.pursue(), (200, at(100), False))
        self.assertEqual(desk.pursue(), (100, at(150), True))
        self.assertEqual(len(desk.walked()), 150)

    def test_beyond_1000_steps(self):
        desk = Desk(counter())
        for _ in range(9):
            desk.go([2] * 100)
        desk.go([2] * 98)
        for most in (3, 5, 100):
            with self.assertRaises(TooLarge) as caught:
                desk.pursue(most)
            self.assertEqual(caught.exception.what, "walked")
        # What raises an error changes nothing, so no search is counted yet.
        self.assertEqual((desk.searches, len(desk.walked())), (0, 998))
        with self.assertRaises(BadValue):
            desk.pursue(0)
        self.assertEqual(desk.pursue(2), (4, at(2), False))
        self.assertEqual(desk.searches, 1)
        with self.assertRaises(TooLarge):
            desk.pursue(1)
        desk.observe((("number", 0, 5),))
        # There is room for a plan without steps, and where there is no plan.
        self.assertEqual(desk.pursue(1), (0, at(5), True))
        none = Desk(counter(9, FALSE))
        for _ in range(10):
            none.go([2] * 100)
        self.assertIsNone(none.pursue(1))
        self.assertEqual(none.searches, 1)

    def test_too_many_states_come_before_too_many_steps(self):
        grid = Task(numbers=(("m", (), 0, 60), ("n", (), 0, 49)), goal=("eq", N, whole(3)),
                    actions=(put("upm", ("add", "m", (), ONE)), put("upn", ("add", "n", (), ONE)), put("idle")))
        desk = Desk(grid)
        for _ in range(10):
            desk.go([2] * 100)
        with self.assertRaises(TooManyStates):
            desk.pursue()
        desk.observe((("number", 0, 1),))
        with self.assertRaises(TooLarge):
            desk.pursue()

    def test_the_other_steps_of_the_plan(self):
        """Point 111, on drawn tasks, step by step to the goal."""
        long = 0
        for seed in range(80):
            source = random.Random(seed)
            task, state, _ = lively_case(source, source.randint(0, 5), 4, 3)
            desk = Desk(task)
            desk.restart(state)
            found = desk.plan()
            self.assertEqual(found, first_plan(task, desk.current), seed)
            long += found is not None and len(found[1]) > 1
            while found is not None and found[1]:
                most = source.randint(1, 2)
                cost, _, reached = desk.pursue(most)
                found = (found[0] - cost, found[1][most:])
                self.assertEqual(desk.plan(), found, seed)
                self.assertEqual(reached, desk.at_goal())
            if found is not None:
                self.assertTrue(desk.at_goal())
        self.assertGreater(long, 15)


class CopyTest(unittest.TestCase):
    """Point 110."""

    def test_a_copy_equals_the_desk(self):
        desk = Desk(counter())
        desk.go([0])
        desk.plan()
        desk.observe((("fact", 0, True),))
        other = desk.copy()
        self.assertIsInstance(other, Desk)
        self.assertIs(other.task, desk.task)
        self.assertEqual(seen_of(other), seen_of(desk))
        self.assertEqual([other.undo() for _ in range(3)], ["observe", "go", None])
        self.assertEqual(seen_of(desk), (at(1, "a"), 2, [0], 1, False))
        self.assertEqual([desk.undo() for _ in range(3)], ["observe", "go", None])

    def test_later_calls_on_one_of_them(self):
        desk = Desk(counter())
        desk.go([0])
        other = desk.copy()
        desk.go([0])
        desk.plan()
        self.assertEqual(seen_of(other), (at(1), 2, [0], 0, False))
        self.assertEqual(other.pursue(1), (2, at(2), False))
        # Each of them has kept its own plans.
        self.assertEqual((other.searches, desk.searches), (1, 1))
        other.plan()
        self.assertEqual(other.searches, 2)
        desk.undo()
        desk.plan()
        self.assertEqual(desk.searches, 2)
        other.restart(at(9))
        self.assertEqual([desk.undo(), desk.undo()], ["go", None])
        self.assertEqual([other.undo(), other.undo(), other.undo(), other.undo()], ["restart", "go", "go", None])

    def test_kept_plans(self):
        desk = Desk(counter())
        desk.plan()
        other = desk.copy()
        other.plan()
        self.assertEqual(other.searches, 1)
        other.plan()[1].clear()
        self.assertEqual(desk.plan(), (10, [0] * 5))
        copy = other.copy().copy()
        copy.go([0])
        copy.plan()
        self.assertEqual((copy.searches, other.searches), (2, 1))

    def test_100_moves(self):
        desk = Desk(counter())
        for _ in range(100):
            desk.go([2])
        other = desk.copy()
        desk.go([2])
        for one, many in ((desk, 1), (other, 0)):
            while one.undo() is not None:
                pass
            self.assertEqual(len(one.walked()), many)


class Model:
    """A desk in which everything is written down."""

    def __init__(self, task):
        self.task = task
        self.now = (task.start_state(), [], 0)
        self.past = []
        self.searched = []

    def move(self, name, now):
        self.past = (self.past + [(name, self.now)])[-100:]
        self.now = now

    def undo(self):
        if not self.past:
            return None
        name, self.now = self.past.pop()
        return name

    def go(self, steps):
        state, walked, total = self.now
        cost = 0
        if len(walked) + len(steps) > 1000:
            return TooLarge
        for step in steps:
            answer = oracle.attempt(self.task, state, step)
            if answer[0] == "not":
                return NotPossible
            cost, state = cost + answer[1], answer[3]
        self.move("go", (state, walked + steps, total + cost))
        return (cost, state, oracle.true_in(self.task, self.task.goal, state))

    def plan(self):
        if self.now[0] not in self.searched:
            self.searched.append(self.now[0])
        return oracle.plan(self.task, self.now[0], self.task.goal)


class DrawnTest(unittest.TestCase):
    def test_drawn_calls(self):
        for seed in range(40):
            source = random.Random(seed)
            draw = Lively(source, source.randint(1, 3), source.randint(0, 2))
            task = draw.task(source.randint(1, 4))
            desk, model = Desk(task), Model(task)
            for _ in range(source.choice((30, 30, 160))):
                if source.random() < 0.05:
                    desk = desk.copy()
                self.one_call(source, draw, desk, model)
                self.assertEqual((desk.current, desk.walked(), desk.cost), model.now, seed)
                self.assertEqual(desk.searches, len(model.searched), seed)

    def one_call(self, source, draw, desk, model):
        task, call = model.task, source.choice(("go", "go", "observe", "restart", "undo", "undo", "plan", "pursue"))
        if call == "go":
            steps = [source.randrange(len(task.all_steps())) for _ in range(source.choice((0, 1, 1, 2)))]
            expected = model.go(steps)
            if isinstance(expected, tuple):
                self.assertEqual(desk.go(steps), expected)
            else:
                self.assertRaises(expected, desk.go, steps)
        elif call == "observe":
            other = draw.state(task)
            seen = tuple(("fact", index, answer) for index, answer in enumerate(other[0]) if source.random() < 0.5)
            state = restoracle.after_seen(seen, model.now[0])
            model.move("observe", (state,) + model.now[1:])
            self.assertEqual(desk.observe(seen), state)
        elif call == "restart":
            state = draw.state(task)
            model.move("restart", (state, [], 0))
            self.assertEqual(desk.restart(state), state)
        elif call == "undo":
            self.assertEqual(desk.undo(), model.undo())
        elif call == "plan":
            self.assertEqual(desk.plan(), model.plan())
        else:
            most = source.randint(1, 3)
            found = model.plan()
            self.assertEqual(desk.pursue(most), found and model.go(found[1][:most]))


if __name__ == "__main__":
    unittest.main()

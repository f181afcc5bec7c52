"""Points 101 to 104, and sureplan/wishes.py."""

import random
import unittest

import wishoracle
from randoms import Draw, Lively
from samples import FALSE, ONE, TRUE, action, fact, number, whole
from sureplan.certificates import certificate
from sureplan.errors import BadValue, TooLarge, TooManyStates
from sureplan.judge import Judge
from sureplan.meaning import holds
from sureplan.tasks import Task
from sureplan.wishes import best_wishes, held_wishes, wish_goal, worth_of

A, B, C = fact("a"), fact("b"), fact("c")
N = number("n")


def put(name, *effects, condition=TRUE, cost=ONE):
    return action(name, condition=condition, effects=effects, cost=cost)


def pick():
    """The example of the interface."""
    one = ("one", (), ("true",), (("make", "a", ()),), ("int", 2), ("int", 1), ())
    two = ("two", (), ("true",), (("make", "b", ()),), ("int", 3), ("int", 1), ())
    return Task(facts=(("a", ()), ("b", ())), actions=(one, two))


PICK_WISHES = [(("fact", "a", ()), 4), (("fact", "b", ()), 5)]


def worker(*actions, **parts):
    return Task(facts=(("a", ()), ("b", ()), ("c", ())), numbers=(("n", (), 0, 9),), actions=actions, **parts)


def state_of(n=0, *names):
    return (tuple(name in names for name in "abc"), (n,))


def drawn_case(source):
    """A task, up to eight wishes and a state."""
    if source.random() < 0.2:
        draw = Draw(source)
        task = draw.task(source.randint(1, 3))
        formulas = [draw.formula(["a", "b"], 1) for _ in range(source.randint(1, 8))]
    else:
        draw = Lively(source, source.randint(2, 4), source.randint(0, 2))
        task = draw.task(source.randint(2, 6))
        formulas = [draw.condition() for _ in range(source.randint(1, 8))]
    wishes = [(formula, source.randint(1, 6)) for formula in formulas]
    return task, wishes, draw.state(task)


class WorthTest(unittest.TestCase):
    """Point 101."""

    def test_held_wishes(self):
        wishes = [(A, 4), (B, 5), (("not", A), 6), (("le", N, whole(3)), 7)]
        for state, held, worth in ((state_of(0), [2, 3], 13), (state_of(9, "a"), [0], 4), (state_of(9), [2], 6),
                                   (state_of(3, "a", "b"), [0, 1, 3], 16), (state_of(4, "b", "c"), [1, 2], 11)):
            self.assertEqual(held_wishes(worker(), wishes, state), held)
            self.assertEqual(worth_of(worker(), wishes, state), worth)

    def test_equal_formulas(self):
        wishes = [(A, 4), (A, 4), (B, 1), (A, 7)]
        self.assertEqual(held_wishes(worker(), wishes, state_of(0, "a")), [0, 1, 3])
        self.assertEqual(worth_of(worker(), wishes, state_of(0, "a")), 15)

    def test_the_goal_has_no_meaning(self):
        for goal in (TRUE, FALSE):
            task = worker(put("x", ("make", "a", ())), goal=goal)
            self.assertEqual(worth_of(task, [(A, 1)], state_of(0, "a")), 1)
            self.assertEqual(best_wishes(task, [(A, 1)]), (1, 1, [0], [0]))

    def test_drawn_wishes(self):
        for seed in range(80):
            source = random.Random(seed)
            task, wishes, state = drawn_case(source)
            self.assertEqual(held_wishes(task, wishes, state), wishoracle.held(task, wishes, state), seed)
            self.assertEqual(worth_of(task, wishes, state), wishoracle.worth(task, wishes, state), seed)


class ArgumentsTest(unittest.TestCase):
    def calls(self, task, wishes, last):
        return (lambda: held_wishes(task, wishes, last), lambda: worth_of(task, wishes, last),
                lambda: wish_goal(task, wishes, last), lambda: best_wishes(task, wishes, last))

    def wrong(self, call):
        with self.assertRaises(BadValue) as caught:
            call()
        return caught.exception.name

    def test_wrong_wishes(self):
        task = worker()
        good = (A, 1)
        for wishes in (None, (), (good,), [], [good] * 9, "ab", {0: good}, good, [[A, 1]], [(A,)], [(A, 1, 1)], [A], [None],
                       [(1, A)], [(A, 0)], [(A, -1)], [(A, 1000001)], [(A, True)], [(A, "1")], [(A, None)], [(A, 1.0)],
                       [(fact("d"), 1)], [(fact("a", "b"), 1)], [(None, 1)], [("fact", 1)], [(("or", [A]), 1)],
                       [(fact("?x"), 1)], [(("le", N, ("int", 1000001)), 1)], [good, good, (A, 0)], [good] * 7 + [None]):
            for last in (None, "x", -1, state_of()):
                for call in self.calls(task, wishes, last):
                    self.assertEqual(self.wrong(call), "wishes", wishes)

    def test_one_wish_and_eight_of_the_least_and_the_greatest_value(self):
        for wishes, worth in (([(A, 1)], 1), ([(A, 1000000)], 1000000), ([(A, 1000000)] * 8, 8000000)):
            self.assertEqual(worth_of(worker(), wishes, state_of(0, "a")), worth)
            self.assertEqual(best_wishes(worker(put("x", ("make", "a", ()))), wishes)[0], worth)

    def test_wrong_states(self):
        for state in (None, 0, (), state_of(10), [(False,) * 3, (0,)], ((False,) * 3, (True,)), ((0, 0, 0), (0,))):
            for function in (held_wishes, worth_of):
                self.assertEqual(self.wrong(lambda: function(worker(), [(A, 1)], state)), "state")
            if state is not None:
                self.assertEqual(self.wrong(lambda: best_wishes(worker(), [(A, 1)], 5, state)), "state")
                self.assertEqual(self.wrong(lambda: best_wishes(worker(), [(A, 1)], -1, state)), "budget")

    def test_budgets(self):
        task = worker(put("x", ("make", "a", ()), cost=whole(0)), put("y", ("make", "b", ()), cost=whole(1000000)),
                      put("z", ("make", "c", ()), cost=("plus", (whole(1000000), ONE))))
        wishes = [(A, 1), (B, 1), (C, 1)]
        self.assertEqual(best_wishes(task, wishes, 0), (1, 0, [0], [0]))
        self.assertEqual(best_wishes(task, wishes, 999999), (1, 0, [0], [0]))
        self.assertEqual(best_wishes(task, wishes, 1000000), (2, 1000000, [0, 1], [0, 1]))
        self.assertEqual(best_wishes(task, wishes, None), (3, 2000001, [0, 1, 2], [0, 1, 2]))
        self.assertEqual(best_wishes(task, wishes), (3, 2000001, [0, 1, 2], [0, 1, 2]))
        for budget in (-1, 1000001, True, False, "0", 1.0, (), [0]):
            for state in (None, 0):
                self.assertEqual(self.wrong(lambda: best_wishes(task, wishes, budget, state)), "budget")

    def test_least_worths_that_are_no_integers(self):
        for least in (None, True, False, "1", 1.0, (1,), [1]):
            self.assertEqual(self.wrong(lambda: wish_goal(worker(), [(A, 1)], least)), "least")

    def test_the_arguments_stay_as_they_are(self):
        wishes = list(PICK_WISHES)
        best_wishes(pick(), wishes, 3)
        wish_goal(pick(), wishes, 3)
        held_wishes(pick(), wishes, pick().start_state())
        self.assertEqual(wishes, PICK_WISHES)


class BestTest(unittest.TestCase):
    """Point 102."""

    def check(self, task, wishes, budget, expected, state=None):
        self.assertEqual(best_wishes(task, wishes, budget, state), expected)
        start = task.start_state() if state is None else state
        self.assertEqual(wishoracle.best(task, wishes, budget, start), expected)

    def test_the_examples_of_the_interface(self):
        self.check(pick(), PICK_WISHES, 3, (5, 3, [1], [1]))
        self.check(pick(), PICK_WISHES, 1, (0, 0, [], []))
        self.check(pick(), PICK_WISHES, None, (9, 5, [0, 1], [0, 1]))

    def test_a_worth_of_0(self):
        self.check(worker(put("x", ("make", "b", ()))), [(A, 1)], None, (0, 0, [], []))
        self.check(worker(), [(A, 1)], None, (0, 0, [], []))
        self.check(worker(), [(A, 1), (("not", A), 3)], 0, (3, 0, [], [1]))

    def test_lower_cost_and_fewer_steps(self):
        task = worker(put("dear", ("make", "a", ()), cost=whole(3)), put("cheap", ("make", "a", ()), cost=whole(2)),
                      put("half", ("make", "b", ())), put("rest", ("make", "a", ()), condition=B))
        self.check(task, [(A, 1)], None, (1, 2, [1], [0]))
        self.check(task, [(A, 1)], 1, (0, 0, [], []))
        # Passing a state in which a wish holds does not count.
        gone = worker(put("x", ("make", "a", ()), condition=("not", B)), put("y", ("make", "b", ()), ("unmake", "a", ()), condition=A))
        self.check(gone, [(A, 1), (B, 2)], None, (2, 2, [0, 1], [1]))
        self.check(gone, [(A, 2), (B, 1)], None, (2, 1, [0], [0]))

    def test_the_list_that_comes_first(self):
        task = worker(put("x", ("make", "c", ())), put("y", ("make", "b", ())), put("z", ("make", "a", ())))
        self.check(task, [(A, 1), (B, 1), (C, 1)], 1, (1, 1, [0], [2]))
        self.check(task, [(A, 1), (B, 1), (C, 1)], 2, (2, 2, [0, 1], [1, 2]))
        self.check(task, [(A, 2), (B, 1), (C, 1)], 2, (3, 2, [0, 2], [0, 2]))

    def test_steps_of_cost_0_and_cycles(self):
        task = worker(put("x", ("make", "a", ()), cost=whole(0)), put("y", ("unmake", "a", ()), cost=whole(0)),
                      put("up", ("add", "n", (), ONE), cost=whole(0)), put("down", ("take", "n", (), ONE), cost=whole(0)))
        self.check(task, [(("eq", N, whole(2)), 1), (("not", A), 1)], 0, (2, 0, [2, 2], [0, 1]))
        self.check(task, [(("eq", N, whole(0)), 1)], 0, (1, 0, [], [0]))
        self.check(task, [(A, 1), (("ge", N, ONE), 1)], 0, (2, 0, [0, 2], [0, 1]))
        self.check(task, [(A, 1)], 0, (1, 0, [1], [0])[:2] + ([], [0]), state_of(5, "a"))

    def test_costs_that_depend_on_the_state(self):
        task = worker(put("up", ("add", "n", (), ONE), cost=N))
        for budget, expected in ((0, (1, 0, [0], [0])), (1, (1, 0, [0], [0])), (3, (3, 3, [0, 0, 0], [0, 1])),
                                 (2, (1, 0, [0], [0]))):
            self.check(task, [(("ge", N, ONE), 1), (("ge", N, whole(3)), 2)], budget, expected)

    def test_from_another_state(self):
        self.check(pick(), PICK_WISHES, 2, (9, 2, [0], [0, 1]), ((False, True), ()))

    def test_drawn_wishes(self):
        worths = {}
        for seed in range(250):
            source = random.Random(seed)
            length = source.choice((0, 1, 2, 3))
            for _ in range(25):
                task, wishes, state = drawn_case(source)
                budget = source.choice((None, None, 0, 1, 2, 3, 5))
                expected = wishoracle.best(task, wishes, budget, state)
                if len(expected[2]) >= length:
                    break
            worths[len(expected[2])] = worths.get(len(expected[2]), 0) + 1
            self.assertEqual(best_wishes(task, wishes, budget, state), expected, seed)
        self.assertGreater(min(worths.get(many, 0) for many in (1, 2, 3)), 10, worths)

    def test_3000_states_and_3001(self):
        grid = (put("upm", ("add", "m", (), ONE), cost=whole(0)), put("upn", ("add", "n", (), ONE), cost=whole(9)),
                put("leave", ("make", "a", ()), condition=("and", (("eq", number("m"), whole(59)), ("eq", N, whole(49)))),
                    cost=whole(1000000)))
        numbers = (("m", (), 0, 59), ("n", (), 0, 49))
        wishes = [(("eq", number("m"), whole(7)), 1), (("ge", N, whole(2)), 1)]
        task = Task(facts=(("a", ()),), numbers=numbers, actions=grid[:2])
        self.assertEqual(best_wishes(task, wishes, 18), (2, 18, [0] * 7 + [1] * 2, [0, 1]))
        self.assertEqual(best_wishes(task, wishes, 17), (1, 0, [0] * 7, [0]))
        task = Task(facts=(("a", ()),), numbers=numbers, actions=grid)
        for budget in (None, 0, 18):
            # The last state is far beyond the budget.
            with self.assertRaises(TooManyStates) as caught:
                best_wishes(task, wishes, budget)
            self.assertEqual(caught.exception.limit, 3000)
        self.assertEqual(best_wishes(task, wishes, 0, ((False,), (1, 0))), (1, 0, [0] * 6, [0]))

    def test_returned_lists_are_new(self):
        found = best_wishes(pick(), PICK_WISHES)
        found[2].clear()
        found[3].clear()
        held_wishes(pick(), PICK_WISHES, ((True, True), ())).clear()
        self.assertEqual(best_wishes(pick(), PICK_WISHES), (9, 5, [0, 1], [0, 1]))
        self.assertEqual(held_wishes(pick(), PICK_WISHES, ((True, True), ())), [0, 1])


class GoalTest(unittest.TestCase):
    """Point 103."""

    def check(self, wishes, least, expected):
        self.assertEqual(wish_goal(worker(), wishes, least), expected)
        self.assertEqual(wishoracle.goal(wishes, least), expected)

    def test_the_example_of_the_interface(self):
        self.assertEqual(wish_goal(pick(), [(A, 4), (B, 5)], 5), ("or", (("and", (("fact", "b", ()),)),)))

    def test_edges(self):
        wishes = [(A, 4), (B, 5)]
        for least in (0, -1, -10 ** 30):
            self.check(wishes, least, TRUE)
        for least in (10, 11, 10 ** 30):
            self.check(wishes, least, FALSE)
        self.check(wishes, 9, ("or", (("and", (A, B)),)))
        self.check(wishes, 6, ("or", (("and", (A, B)),)))
        self.check(wishes, 4, ("or", (("and", (A,)), ("and", (B,)))))
        self.check(wishes, 1, ("or", (("and", (A,)), ("and", (B,)))))

    def test_the_order_of_the_choices(self):
        wishes = [(A, 1), (B, 3), (C, 2), (("not", A), 3)]
        self.check(wishes, 3, ("or", (("and", (A, C)), ("and", (B,)), ("and", (("not", A),)))))
        self.check(wishes, 4, ("or", (("and", (A, B)), ("and", (A, ("not", A))), ("and", (B, C)),
                                      ("and", (B, ("not", A))), ("and", (C, ("not", A))))))
        self.check(wishes, 6, ("or", (("and", (A, B, C)), ("and", (A, C, ("not", A))), ("and", (B, ("not", A))))))

    def test_equal_values_and_equal_formulas(self):
        self.check([(A, 2), (B, 2), (C, 2)], 3, ("or", (("and", (A, B)), ("and", (A, C)), ("and", (B, C)))))
        self.check([(A, 2), (A, 2), (A, 2)], 4, ("or", (("and", (A, A)), ("and", (A, A)), ("and", (A, A)))))

    def test_a_choice_that_could_do_without_two(self):
        # Without any one of its positions (A, B, C) is not enough, but it could be if two were missing at once.
        self.check([(A, 5), (B, 1), (C, 1)], 6, ("or", (("and", (A, B)), ("and", (A, C)))))
        self.check([(A, 5), (B, 1), (C, 1)], 7, ("or", (("and", (A, B, C)),)))

    def test_drawn_wishes(self):
        for seed in range(100):
            source = random.Random(seed)
            task, wishes, state = drawn_case(source)
            least = source.randint(-1, sum(value for _, value in wishes) + 2)
            expected = wishoracle.goal(wishes, least)
            if task.is_formula(expected):
                self.assertEqual(wish_goal(task, wishes, least), expected, seed)
                for _ in range(3):
                    self.assertEqual(holds(task, expected, state), worth_of(task, wishes, state) >= least, seed)
                    state = Draw(source).state(task)
            else:
                self.large(task, wishes, least)

    def large(self, task, wishes, least):
        with self.assertRaises(TooLarge) as caught:
            wish_goal(task, wishes, least)
        self.assertEqual(caught.exception.what, "goal")

    def test_too_many_nodes(self):
        # The goal has 2 nodes besides the formula.
        for many, fits in ((197, True), (198, False)):
            wishes = [(("and", (A,) * many), 1)]
            if fits:
                self.check(wishes, 1, ("or", (("and", (wishes[0][0],)),)))
            else:
                self.large(worker(), wishes, 1)
        # Eight wishes of which four must hold: 70 choices with 5 nodes each.
        wishes = [(A, 1)] * 8
        self.large(worker(), wishes, 4)
        self.check(wishes, 8, ("or", (("and", (A,) * 8),)))
        # Three of eight: 1 + 56 * 4; two of eight: 1 + 28 * 3.
        self.large(worker(), wishes, 3)
        self.assertEqual(len(wish_goal(worker(), wishes, 2)[1]), 28)

    def test_too_many_levels(self):
        formula = A
        for _ in range(9):
            formula = ("not", formula)
        self.check([(formula, 1)], 1, ("or", (("and", (formula,)),)))
        self.large(worker(), [(("not", formula), 1)], 1)
        # A formula of a task may be as deep as this, and without it the goal is not too deep.
        self.check([(("not", ("not", formula)), 1), (A, 2)], 0, TRUE)
        self.check([(("not", ("not", formula)), 1), (A, 2)], 4, FALSE)
        self.check([(("not", ("not", formula)), 1), (A, 2)], 2, ("or", (("and", (A,)),)))

    def test_too_many_instances(self):
        task = Task(kinds=(("Sort", "Thing"),), objects=tuple((f"o{k}", "Sort") for k in range(10)),
                    facts=(("f", ("Sort",)),))
        formula = ("all", (("?x", "Sort"), ("?y", "Sort"), ("?z", "Sort")), fact("f", "?x"))
        one = fact("f", "o0")
        self.assertEqual(wish_goal(task, [(formula, 1), (formula, 1)], 2), ("or", (("and", (formula, formula)),)))
        self.assertEqual(wish_goal(task, [(formula, 1), (formula, 1)], 1),
                         ("or", (("and", (formula,)), ("and", (formula,)))))
        self.large(task, [(formula, 1), (formula, 1), (one, 1)], 3)
        self.large(task, [(formula, 1), (formula, 1), (one, 1)], 1)

    def test_wrong_arguments_come_first(self):
        with self.assertRaises(BadValue) as caught:
            wish_goal(worker(), [(A, 1)] * 8 + [(A, 0)], 4)
        self.assertEqual(caught.exception.name, "wishes")


class CertificateTest(unittest.TestCase):
    """Point 104."""

    def test_drawn_wishes(self):
        claims = {}
        for seed in range(400):
            source = random.Random(seed)
            task, wishes, state = drawn_case(source)
            wishes = wishes[:4]
            budget = source.choice((None, 0, 1, 2, 3))
            worth = best_wishes(task, wishes, budget, state)[0]
            try:
                goal = wish_goal(task, wishes, worth + 1)
            except TooLarge:
                continue
            judge = Judge(task, state, goal)
            for line in certificate(task, state, goal):
                self.assertEqual(judge.line(line), "right", seed)
            claim = judge.claim()
            claims[claim == "none"] = claims.get(claim == "none", 0) + 1
            self.assertTrue(claim == "none" or budget is not None and claim > budget, seed)
        self.assertGreater(min(claims[True], claims[False]), 15)


if __name__ == "__main__":
    unittest.main()

"""Point 7 and the interface: every name stands in its module, with its arguments, and is defined there."""

import importlib
import inspect
import unittest

ERRORS = {
    "PlanError": None,
    "BadTask": "where, why",
    "BadValue": "name",
    "NotPossible": "position, reason",
    "TooManyStates": "limit",
    "TooLarge": "what",
    "TextError": "line, column, words",
}
FUNCTIONS = {
    "meaning": {"holds": "task, formula, state", "worth": "task, amount, state", "try_step": "task, state, step"},
    "running": {"run": "task, state, steps", "possible_steps": "task, state"},
    "search": {"reached_states": "task, state", "first_plan": "task, state, goal=None"},
    "boxes": {"whole_box": "task", "box_of_state": "state", "common_box": "first, second", "hull": "first, second",
              "lies_in": "first, second", "in_box": "state, box"},
    "conditions": {"linear_form": "task, amount", "span_of": "task, amount, box", "judged": "task, formula, box"},
    "cutting": {"cut": "task, formula, box, wanted", "remainder": "task, formula, box"},
    "stepping": {"step_from": "task, step, box"},
    "outline": {"outline": "task, state", "changeable": "task, state"},
    "certificates": {"certificate": "task, state=None, goal=None"},
    "trimming": {"trimmed": "task, state, goal, lines"},
    "groups": {"groups": "task, state"},
    "levels": {"levels": "task, state", "level_bound": "task, state"},
    "cuts": {"cuts": "task, state", "cut_bound": "task, state"},
    "projections": {"projections": "task, patterns, state", "projection_bound": "task, patterns, state"},
    "boundlines": {"level_lines": "task, state", "cut_lines": "task, state",
                   "projection_lines": "task, patterns, state"},
    "orders": {"goes_alike": "task, steps, state, order", "kept_pairs": "task, steps, state",
               "pair_witnesses": "task, steps, state"},
    "purposes": {"purposes": "task, steps, state", "cheapest_part": "task, steps, state"},
    "touching": {"formula_reads": "task, formula", "reads": "task, step", "writes": "task, state, step"},
    "schedules": {"uses": "task, step", "disturbing_pairs": "task, steps, state",
                  "is_schedule": "task, steps, state, starts", "schedule": "task, steps, state"},
    "soonest": {"soonest_certificate": "task, steps, state", "accepts_soonest": "task, steps, state, time, lines"},
    "watching": {"works": "task, steps, state", "after_seen": "task, seen, state", "threats": "task, steps, state"},
    "needed": {"needed": "task, steps", "follow": "tree, state"},
    "repair": {"edit_count": "old, new", "kept_positions": "old, new", "repair": "task, steps, state=None"},
    "wishes": {"held_wishes": "task, wishes, state", "worth_of": "task, wishes, state",
               "wish_goal": "task, wishes, least", "best_wishes": "task, wishes, budget=None, state=None"},
    "scanning": {"scan": "text", "end_of": "text", "is_integer_text": "word"},
    "forms": {"parse_commands": "text", "parse_form": "text"},
    "reading": {"read_task": "text", "read_formula": "task, text", "read_amount": "task, text",
                "read_state": "task, text", "read_seen": "task, text", "read_step": "task, text",
                "read_steps": "task, text", "read_lines": "text"},
    "writing": {"task_text": "task", "formula_text": "task, formula", "amount_text": "task, amount",
                "state_text": "task, state", "seen_text": "task, seen", "step_text": "task, step",
                "steps_text": "task, steps", "lines_text": "lines"},
}
METHODS = {
    "all_facts": "", "all_numbers": "", "all_resources": "", "all_steps": "", "objects_of": "kind",
    "fact_index": "name, args", "number_index": "name, args", "resource_index": "name, args",
    "step_index": "action, args", "start_state": "", "condition_of": "step", "effects_of": "step", "cost_of": "step",
    "time_of": "step", "uses_of": "step", "is_step": "step", "is_state": "state", "is_formula": "formula",
    "is_amount": "amount",
}
DESK_METHODS = {
    "walked": "", "at_goal": "", "go": "steps", "observe": "seen", "restart": "state=None", "undo": "", "plan": "",
    "pursue": "most=100", "copy": "",
}


def arguments(function):
    return str(inspect.signature(function))[1:-1]


class InterfaceTest(unittest.TestCase):
    def module(self, name):
        return importlib.import_module("sureplan." + name)

    def test_functions(self):
        for name, listed in FUNCTIONS.items():
            for function, expected in listed.items():
                found = getattr(self.module(name), function)
                self.assertEqual(arguments(found), expected, function)
                self.assertEqual(found.__module__, "sureplan." + name)

    def test_errors(self):
        for name, expected in ERRORS.items():
            found = getattr(self.module("errors"), name)
            self.assertEqual(found.__module__, "sureplan.errors")
            if expected is not None:
                self.assertEqual(arguments(found), expected)

    def test_task(self):
        task = self.module("tasks").Task
        self.assertEqual(task.__module__, "sureplan.tasks")
        self.assertEqual(arguments(task), "*, kinds=(), objects=(), facts=(), numbers=(), resources=(), actions=(), "
                                          "start=((), ()), goal=('true',)")
        for name, expected in METHODS.items():
            self.assertIn(name, vars(task))
            self.assertEqual(", ".join(list(inspect.signature(vars(task)[name]).parameters)[1:]), expected)

    def test_judge(self):
        judge = self.module("judge").Judge
        self.assertEqual(judge.__module__, "sureplan.judge")
        self.assertEqual(arguments(judge), "task, state=None, goal=None")
        for name, expected in (("line", "line"), ("claim", "")):
            self.assertIn(name, vars(judge))
            self.assertEqual(", ".join(list(inspect.signature(vars(judge)[name]).parameters)[1:]), expected)

    def test_desk(self):
        desk = self.module("desk").Desk
        self.assertEqual(desk.__module__, "sureplan.desk")
        self.assertEqual(arguments(desk), "task")
        for name, expected in DESK_METHODS.items():
            self.assertIn(name, vars(desk))
            self.assertEqual(arguments(vars(desk)[name]), "self, " + expected if expected else "self")
        for name in ("current", "cost"):
            self.assertIsInstance(vars(desk)[name], property)
        task = self.module("tasks").Task()
        self.assertIs(desk(task).task, task)
        self.assertEqual(desk(task).searches, 0)


if __name__ == "__main__":
    unittest.main()

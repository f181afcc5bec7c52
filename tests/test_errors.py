"""Points 6 and 9: the error classes and their attributes."""

import unittest

from sureplan import errors
from sureplan.errors import BadTask, BadValue, NotPossible, PlanError, TextError, TooLarge, TooManyStates


class ErrorsTest(unittest.TestCase):
    def test_attributes(self):
        bad = BadTask(("facts", 1), "form")
        self.assertEqual((bad.where, bad.why), (("facts", 1), "form"))
        self.assertEqual(BadValue("state").name, "state")
        missing = NotPossible(2, ("both", 1))
        self.assertEqual((missing.position, missing.reason), (2, ("both", 1)))
        self.assertEqual(TooManyStates(3000).limit, 3000)
        self.assertEqual(TooLarge("cuts").what, "cuts")
        text = TextError(3, 4, "not closed")
        self.assertEqual((text.line, text.column, text.words), (3, 4, "not closed"))

    def test_keyword_arguments(self):
        self.assertEqual(BadTask(where=("goal",), why="form").where, ("goal",))
        self.assertEqual(BadValue(name="goal").name, "goal")
        self.assertEqual(NotPossible(position=1, reason=("goal",)).reason, ("goal",))
        self.assertEqual(TooManyStates(limit=7).limit, 7)
        self.assertEqual(TooLarge(what="goal").what, "goal")
        self.assertEqual(TextError(line=1, column=2, words="x").column, 2)

    def test_hierarchy(self):
        self.assertTrue(issubclass(PlanError, ValueError))
        below = [BadTask, BadValue, NotPossible, TooManyStates, TooLarge, TextError]
        for one in below:
            self.assertEqual(one.__bases__, (PlanError,))
            self.assertEqual(one.__module__, "sureplan.errors")

    def test_messages(self):
        for one in [BadTask(("start",), "form"), BadValue("x"), NotPossible(0, ("cost",)), TooManyStates(1),
                    TooLarge("y"), TextError(1, 1, "z")]:
            self.assertNotEqual(str(one), "")

    def test_no_other_error_class(self):
        names = [name for name in vars(errors) if isinstance(getattr(errors, name), type)]
        self.assertEqual(sorted(names), ["BadTask", "BadValue", "NotPossible", "PlanError", "TextError", "TooLarge",
                                         "TooManyStates"])


if __name__ == "__main__":
    unittest.main()

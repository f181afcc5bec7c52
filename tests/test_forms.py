"""Points 114 and 115, and sureplan/forms.py."""

import unittest

from sureplan.forms import parse_commands, parse_form
from test_scanning import problem_of


def nested(depth, inside=""):
    return "(" * depth + inside + ")" * depth


class FormsTest(unittest.TestCase):
    """Point 114."""

    def test_words_and_lists(self):
        self.assertEqual(parse_form("go"), ("token", "go", 1, 1))
        self.assertEqual(parse_form("()"), ("list", (), 1, 1, 1, 2))
        self.assertEqual(parse_form(" (go\n  shop )"),
                         ("list", (("token", "go", 1, 2 + 1), ("token", "shop", 2, 3)), 1, 2, 2, 8))
        self.assertEqual(parse_form("(a (b ()) c)"),
                         ("list", (("token", "a", 1, 2),
                                   ("list", (("token", "b", 1, 5), ("list", (), 1, 7, 1, 8)), 1, 4, 1, 9),
                                   ("token", "c", 1, 11)), 1, 1, 1, 12))

    def test_commands(self):
        self.assertEqual(parse_commands(""), [])
        self.assertEqual(parse_commands(" ; nothing\n"), [])
        self.assertEqual(parse_commands("(a)()\n((b))"),
                         [("list", (("token", "a", 1, 2),), 1, 1, 1, 3), ("list", (), 1, 4, 1, 5),
                          ("list", (("list", (("token", "b", 2, 3),), 2, 2, 2, 4),), 2, 1, 2, 5)])

    def test_a_returned_list_is_new(self):
        parse_commands("(a)").clear()
        self.assertEqual(len(parse_commands("(a)")), 1)

    def test_many_forms(self):
        self.assertEqual(len(parse_commands("()" * 100000)), 100000)
        self.assertEqual(len(parse_form("(" + "a " * 90000 + ")")[1]), 90000)


class ProblemsTest(unittest.TestCase):
    """Point 115."""

    def both(self, text, expected):
        self.assertEqual(problem_of(parse_commands, text), expected, text)
        self.assertEqual(problem_of(parse_form, text), expected, text)

    def test_nothing_to_close(self):
        self.both(")", (1, 1, "nothing to close"))
        self.both("(a))", (1, 4, "nothing to close"))
        self.both("(a)\n(b) )\n)", (2, 5, "nothing to close"))
        self.assertEqual(problem_of(parse_form, "a b )"), (1, 5, "nothing to close"))

    def test_a_word_among_commands(self):
        self.assertEqual(problem_of(parse_commands, "a"), (1, 1, "a command begins with ("))
        self.assertEqual(problem_of(parse_commands, "(a) b"), (1, 5, "a command begins with ("))
        self.assertEqual(problem_of(parse_commands, "(a)\n;x\n  b (c"), (3, 3, "a command begins with ("))
        self.assertIsNone(problem_of(parse_form, "a"))

    def test_depth_40_and_41(self):
        for inside in ("", "a", "a b"):
            self.assertIsNone(problem_of(parse_commands, nested(40, inside)))
            self.assertIsNone(problem_of(parse_form, nested(40, inside)))
            self.both(nested(41, inside), (1, 41, "nested too deep"))
        self.both("(" * 45, (1, 41, "nested too deep"))
        self.both("(a (b)\n" + "(" * 40, (2, 40, "nested too deep"))
        self.assertIsNone(problem_of(parse_commands, nested(40) * 3))
        self.assertIsNone(problem_of(parse_form, "(" + nested(39) * 3 + ")"))
        self.both("(" + nested(39) + nested(40) + ")", (1, 1 + 78 + 40, "nested too deep"))

    def test_not_closed(self):
        self.both("(", (1, 1, "not closed"))
        self.both("(a (b) (c\n", (1, 8, "not closed"))
        self.both("((a)", (1, 1, "not closed"))
        self.both("(a\n (b\n  (c)", (2, 2, "not closed"))
        self.both("(a) (b", (1, 5, "not closed"))
        self.both("(" * 40, (1, 40, "not closed"))

    def test_the_first_problem_from_left_to_right(self):
        self.assertEqual(problem_of(parse_commands, "a ) " + "(" * 41), (1, 1, "a command begins with ("))
        self.assertEqual(problem_of(parse_commands, ") a"), (1, 1, "nothing to close"))
        self.assertEqual(problem_of(parse_commands, nested(41) + ") a"), (1, 41, "nested too deep"))
        self.assertEqual(problem_of(parse_commands, "(a)) b ("), (1, 4, "nothing to close"))
        # Only if there is none of them, a list that is not closed is reported.
        self.both("(a) ) (", (1, 5, "nothing to close"))
        self.assertEqual(problem_of(parse_commands, "(a (b) c) d ("), (1, 11, "a command begins with ("))

    def test_other_characters_come_first(self):
        self.both(") (\n#", (2, 1, "no such character"))
        self.both("a b (" + nested(41) + "!", (1, 6 + 82, "no such character"))

    def test_no_form(self):
        for text, place in (("", (1, 1)), ("  ", (1, 3)), ("\n", (2, 1)), ("; a\n ", (2, 2)), (" ; (", (1, 5))):
            self.assertEqual(problem_of(parse_form, text), place + ("a form is expected",), repr(text))

    def test_too_many_forms(self):
        for text, place in (("a b", (1, 3)), ("(a) b c", (1, 5)), ("a\n(b)", (2, 1)), ("()()()", (1, 3)), ("a(b)", (1, 2))):
            self.assertEqual(problem_of(parse_form, text), place + ("too many forms",), text)
        # Problems of parentheses come first.
        self.assertEqual(problem_of(parse_form, "a b ("), (1, 5, "not closed"))
        self.assertEqual(problem_of(parse_form, "a b )"), (1, 5, "nothing to close"))


if __name__ == "__main__":
    unittest.main()

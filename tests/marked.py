"""Texts in which `^` marks the place of the problem that is expected."""

import unittest

from sureplan.errors import TextError


def marked_place(text):
    """The text without its mark, and the line and the column at which the mark stood."""
    before, behind = text.split("^")
    lines = before.split("\n")
    return before + behind, len(lines), len(lines[-1]) + 1


class TextCase(unittest.TestCase):
    def fails(self, function, text, words):
        """Checks that a function of a text reports these words at the mark."""
        plain, line, column = marked_place(text)
        with self.assertRaises(TextError, msg=text) as caught:
            function(plain)
        error = caught.exception
        self.assertEqual((error.line, error.column, error.words), (line, column, words), text)

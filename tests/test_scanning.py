"""Points 112, 113 and 116, and sureplan/scanning.py."""

import random
import unittest

from sureplan.errors import TextError
from sureplan.scanning import end_of, is_integer_text, scan

WORD_CHARACTERS = "abcdefghijklmnopqrstuvwxyzABCDEFGHIJKLMNOPQRSTUVWXYZ0123456789_?-+*<>="


def problem_of(function, *args):
    """The line, the column and the words of the problem of a text, or None."""
    try:
        function(*args)
    except TextError as error:
        return (error.line, error.column, error.words)
    return None


class ScanTest(unittest.TestCase):
    def test_words_and_parentheses(self):
        self.assertEqual(scan("(go shop)"), [("(", 1, 1), ("go", 1, 2), ("shop", 1, 5), (")", 1, 9)])
        self.assertEqual(scan("(a)b(c"), [("(", 1, 1), ("a", 1, 2), (")", 1, 3), ("b", 1, 4), ("(", 1, 5), ("c", 1, 6)])
        self.assertEqual(scan("a"), [("a", 1, 1)])
        self.assertEqual(scan("))(("), [(")", 1, 1), (")", 1, 2), ("(", 1, 3), ("(", 1, 4)])

    def test_every_character_of_words(self):
        self.assertEqual(scan(WORD_CHARACTERS), [(WORD_CHARACTERS, 1, 1)])
        for letter in WORD_CHARACTERS:
            self.assertEqual(scan(" " + letter), [(letter, 1, 2)])

    def test_blanks(self):
        self.assertEqual(scan(""), [])
        self.assertEqual(scan(" \n\t \n"), [])
        self.assertEqual(scan("a b\tc\nd"), [("a", 1, 1), ("b", 1, 3), ("c", 1, 5), ("d", 2, 1)])
        # A tab is one character.
        self.assertEqual(scan("\t\ta"), [("a", 1, 3)])
        self.assertEqual(scan("\n\n  a\n\tb"), [("a", 3, 3), ("b", 4, 2)])

    def test_comments(self):
        self.assertEqual(scan("; a (b\nc"), [("c", 2, 1)])
        self.assertEqual(scan("a;b\nc ; d\n;\ne;"), [("a", 1, 1), ("c", 2, 1), ("e", 4, 1)])
        self.assertEqual(scan("a ; no newline (behind"), [("a", 1, 1)])
        self.assertEqual(scan("a;;b\n;(\n(c"), [("a", 1, 1), ("(", 3, 1), ("c", 3, 2)])
        self.assertEqual(scan(";"), [])
        # They may contain any characters.
        self.assertEqual(scan("a ; # ! \u00e4 \r \x00 \u2028 \"'\nb"), [("a", 1, 1), ("b", 2, 1)])

    def test_other_characters(self):
        for letter in "#!\"'$&,./:@[\\]^`{|}~\r\x0b\x0c\x00\x7f\u00e4\u00a0\u2028\u0660\u00b2\x1c\x85%":
            self.assertEqual(problem_of(scan, letter), (1, 1, "no such character"), repr(letter))
            self.assertEqual(problem_of(scan, "(go\n  ab" + letter + "c)"), (2, 5, "no such character"), repr(letter))
            self.assertEqual(problem_of(scan, "a ; b\n\t" + letter), (2, 2, "no such character"), repr(letter))

    def test_the_first_one_counts(self):
        self.assertEqual(problem_of(scan, "a ; #\n b # ! #"), (2, 4, "no such character"))
        self.assertEqual(problem_of(scan, "))) ((\n\n ."), (3, 2, "no such character"))

    def test_places_count_characters(self):
        source = random.Random(3)
        for _ in range(100):
            text = "".join(source.choice("ab0 \t\n()();x") for _ in range(40))
            lines = text.split("\n")
            for word, line, column in scan(text):
                self.assertEqual(lines[line - 1][column - 1:column - 1 + len(word)], word)
                self.assertNotIn(";", lines[line - 1][:column])
            words = [word for line in lines
                     for word in line.split(";")[0].replace("(", " ( ").replace(")", " ) ").split()]
            self.assertEqual([word for word, _, _ in scan(text)], words)

    def test_a_long_text(self):
        self.assertEqual(len(scan("(a) " * 50000)), 150000)
        self.assertEqual(scan("a" * 200000), [("a" * 200000, 1, 1)])

    def test_a_returned_list_is_new(self):
        scan("a").clear()
        self.assertEqual(scan("a"), [("a", 1, 1)])


class EndTest(unittest.TestCase):
    def test_ends(self):
        for text, place in (("", (1, 1)), ("a", (1, 2)), ("ab c", (1, 5)), ("\n", (2, 1)), ("a\n", (2, 1)), ("a\nbc", (2, 3)),
                            ("\n\n\n", (4, 1)), ("a ; b", (1, 6)), ("\t\t", (1, 3)), ("a\n;\n  ", (3, 3)), ("\r", (1, 2))):
            self.assertEqual(end_of(text), place, repr(text))


class IntegerTest(unittest.TestCase):
    def test_integers(self):
        for word in ("0", "1", "9", "10", "100", "-1", "-9", "-10", "1" * 100, "-" + "1" * 100, "9" * 100, "1000000"):
            self.assertTrue(is_integer_text(word), word)
            self.assertIs(is_integer_text(word), True)

    def test_no_integers(self):
        for word in ("", "-", "00", "01", "-0", "-01", "--1", "+1", "1-", "1-1", "1+", "a", "1a", "a1", "?1", "1_0", "1.0",
                     " 1", "1 ", "1" * 101, "-" + "1" * 101, "0" * 100, "\u0661", "\u00b2", "1\n", "-\n1", "=", "none"):
            self.assertIs(is_integer_text(word), False, repr(word))


if __name__ == "__main__":
    unittest.main()

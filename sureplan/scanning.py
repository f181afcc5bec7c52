"""The tokens of a text and their places (points 112, 113 and 116)."""

from sureplan.errors import TextError

DIGITS = "0123456789"
WORD_CHARACTERS = "abcdefghijklmnopqrstuvwxyzABCDEFGHIJKLMNOPQRSTUVWXYZ0123456789_?-+*<>="
MOST_DIGITS = 100


def comment_end(text, at):
    """Returns the index behind a comment that begins at an index."""
    found = text.find("\n", at)
    return len(text) if found < 0 else found


def word_end(text, at):
    """Returns the index behind the characters of words from an index on."""
    while at < len(text) and text[at] in WORD_CHARACTERS:
        at += 1
    return at


def scan(text):
    """Returns the tokens of a text, each with its line and its column."""
    tokens = []
    line = 1
    line_begin = 0
    at = 0
    while at < len(text):
        letter = text[at]
        column = at - line_begin + 1
        behind = at + 1
        if letter == "\n":
            line += 1
            line_begin = behind
        elif letter == ";":
            behind = comment_end(text, at)
        elif letter in "()":
            tokens.append((letter, line, column))
        elif letter not in " \t":
            behind = word_end(text, at)
            if behind == at:
                raise TextError(line, column, "no such character")
            tokens.append((text[at:behind], line, column))
        at = behind
    return tokens


def end_of(text):
    """Returns the line and the column of the end of a text."""
    return (1 + text.count("\n"), len(text) - text.rfind("\n"))


def is_integer_text(word):
    """Tells if a word is an integer."""
    digits = word[1:] if word.startswith("-") else word
    if not 1 <= len(digits) <= MOST_DIGITS or not all([digit in DIGITS for digit in digits]):
        return False
    return not digits.startswith("0") or word == "0"

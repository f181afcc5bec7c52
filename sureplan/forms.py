"""The forms of a text: words, and lists of forms (points 114 and 115)."""

from sureplan.errors import TextError
from sureplan.scanning import end_of, scan

DEEPEST = 40


def outer_forms(text, is_commands):
    """Returns the forms outside of all lists; in a text of commands no word stands there."""
    rows = [[]]
    places = []
    for word, line, column in scan(text):
        if word == "(":
            if len(places) == DEEPEST:
                raise TextError(line, column, "nested too deep")
            places.append((line, column))
            rows.append([])
        elif word == ")":
            if not places:
                raise TextError(line, column, "nothing to close")
            inner = tuple(rows.pop())
            rows[-1].append(("list", inner) + places.pop() + (line, column))
        else:
            if is_commands and not places:
                raise TextError(line, column, "a command begins with (")
            rows[-1].append(("token", word, line, column))
    if places:
        line, column = places[-1]
        raise TextError(line, column, "not closed")
    return rows[0]


def parse_commands(text):
    """Returns the list of the forms of a text of commands."""
    return outer_forms(text, True)


def parse_form(text):
    """Returns the form of a text of one form."""
    found = outer_forms(text, False)
    if not found:
        line, column = end_of(text)
        raise TextError(line, column, "a form is expected")
    if len(found) > 1:
        raise TextError(found[1][2], found[1][3], "too many forms")
    return found[0]

"""The forms of the lines of certificates (point 55)."""

from sureplan.names import is_integer

# One letter for each item behind the kind: n is an integer that is not less than 0, c any integer, v a label.
FORMS = {
    "invariant": "",
    "sum": "",
    "lean": "",
    "tree": "nn",
    "share": "nnn",
    "fact": "n",
    "number": "nc",
    "label": "v",
    "claim": "v",
}


def fits(letter, part):
    """Tells if an item of a line is one that the letter stands for."""
    if letter == "v" and part is None:
        return True
    return is_integer(part) and (letter == "c" or part >= 0)


def form_reason(line):
    """Returns "kind" or "form" if the line has a wrong form, otherwise "right"."""
    if not isinstance(line, tuple) or not line or not isinstance(line[0], str) or line[0] not in FORMS:
        return "kind"
    letters = FORMS[line[0]]
    if len(line) != len(letters) + 1:
        return "form"
    return "right" if all([fits(letter, part) for letter, part in zip(letters, line[1:])]) else "form"

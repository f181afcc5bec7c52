"""Reads the parts of forms: words, integers, names with arguments, and how many forms a list has (point 120)."""

from sureplan.errors import TextError
from sureplan.scanning import is_integer_text


def place_of(form):
    """Returns the line and the column of a form."""
    return form[2:4]


def refuse(form, words):
    """Raises the problem of a form at its place."""
    raise TextError(form[2], form[3], words)


def is_list(form):
    return form[0] == "list"


def read_word(form):
    """Returns the word where a name, a kind, a variable or an argument is read."""
    if is_list(form):
        refuse(form, "a token is expected")
    return form[1]


def read_words(forms):
    return tuple([read_word(form) for form in forms])


def read_list(form):
    """Returns the forms of a list where no word may stand."""
    if not is_list(form):
        refuse(form, "a list is expected")
    return form[1]


def read_first(form):
    """Returns the first word of a list."""
    if not form[1]:
        raise TextError(form[4], form[5], "a word is expected")
    if is_list(form[1][0]):
        refuse(form[1][0], "a word is expected")
    return form[1][0][1]


def check_count(form, forms, least, most):
    """Raises a problem if some forms of a list are not as many as they may be; `most` may be None."""
    if len(forms) < least:
        raise TextError(form[4], form[5], "too few")
    if most is not None and len(forms) > most:
        refuse(forms[most], "too many")


def read_behind(form, least, most):
    """Returns the forms behind the first word of a list."""
    behind = form[1][1:]
    check_count(form, behind, least, most)
    return behind


def read_integer(form):
    if is_list(form) or not is_integer_text(form[1]):
        refuse(form, "an integer is expected")
    return int(form[1])


def read_call(form):
    """Returns the name and the arguments of a fact, a number or a resource."""
    if not is_list(form):
        return (form[1], ())
    name = read_first(form)
    return (name, read_words(form[1][1:]))


def read_variable(form):
    """Returns a variable and its kind."""
    pair = read_list(form)
    check_count(form, pair, 2, 2)
    return read_words(pair)


def read_variables(form):
    """Returns the variables of a list with their kinds."""
    return tuple([read_variable(pair) for pair in read_list(form)])

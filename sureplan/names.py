"""Names, integers and the plain forms that parts of a task have."""

LOWER = "abcdefghijklmnopqrstuvwxyz"
UPPER = "ABCDEFGHIJKLMNOPQRSTUVWXYZ"
BEHIND = "abcdefghijklmnopqrstuvwxyzABCDEFGHIJKLMNOPQRSTUVWXYZ0123456789_"
LONGEST_NAME = 24
RESERVED = ("true", "false", "not", "and", "or", "implies", "all", "some", "same")
LARGEST = 1000000


def is_spelled(text, firsts):
    """Tells if the string begins with one of the letters and goes on as names do."""
    if not 1 <= len(text) <= LONGEST_NAME:
        return False
    return text[0] in firsts and all(letter in BEHIND for letter in text)


def is_name(text):
    return is_spelled(text, LOWER)


def is_kind_name(text):
    return is_spelled(text, UPPER)


def is_variable(text):
    return text[:1] == "?" and is_name(text[1:])


def is_reserved(text):
    return text in RESERVED


def is_integer(value):
    """Tells if the value is an integer; True and False are none here."""
    return isinstance(value, int) and not isinstance(value, bool)


def is_small(number):
    """Tells if the integer is one that may stand in formulas and amounts."""
    return -LARGEST <= number <= LARGEST


def is_strings(value):
    """Tells if the value is a tuple of strings."""
    return isinstance(value, tuple) and all(isinstance(item, str) for item in value)


def is_string_pair(value):
    return is_strings(value) and len(value) == 2


def is_string_pairs(value):
    """Tells if the value is a tuple of pairs of strings."""
    return isinstance(value, tuple) and all(is_string_pair(item) for item in value)

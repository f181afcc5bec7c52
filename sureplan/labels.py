"""Labels: integers that are not less than 0, and None, which is greater than all of them (point 48)."""


def is_less(first, second):
    """Tells if the first label is less than the second one."""
    if first is None:
        return False
    return second is None or first < second


def lesser(first, second):
    return first if is_less(first, second) else second


def greater(first, second):
    return second if is_less(first, second) else first


def total(labels):
    """Returns the total of labels: None if one of them is None."""
    found = 0
    for label in labels:
        if label is None:
            return None
        found += label
    return found

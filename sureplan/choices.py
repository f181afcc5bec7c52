"""Choices of objects."""


def choices(lists):
    """Returns the tuples with one item of each list, in the order of the first item, then of the second one."""
    rows = [()]
    for names in lists:
        rows = [row + (name,) for row in rows for name in names]
    return rows


def binding_of(pairs, chosen):
    """Returns what each variable of the pairs stands for if these objects are chosen."""
    return {pair[0]: name for pair, name in zip(pairs, chosen)}

"""Cuts boxes by formulas (points 41 and 42)."""

from sureplan.conditions import form_span, judged_ground
from sureplan.entries import with_fact, with_number
from sureplan.grounding import ground_formula


def cut_fact(box, index, wanted):
    entry = box[0][index]
    if entry is None:
        return with_fact(box, index, wanted)
    return box if entry == wanted else None


def opposite(form):
    """Returns 1 minus the form: it is at most 0 where the form is not."""
    constant, terms = form
    return (1 - constant, tuple([(index, -factor) for index, factor in terms]))


def cut_span(box, constant, index, factor):
    """Reduces the span of a number to the values for which constant + factor * value is at most 0."""
    low, high = box[1][index]
    if factor > 0:
        high = min(high, -constant // factor)
    else:
        # The least value that is at least constant / -factor: the quotient is rounded up.
        low = max(low, -(constant // factor))
    return with_number(box, index, (low, high)) if low <= high else None


def cut_inequality(box, form):
    """Returns what is left if the form is wanted to be at most 0."""
    constant, terms = form
    if len(terms) == 1:
        index, factor = terms[0]
        return cut_span(box, constant, index, factor)
    return None if form_span(form, box[1])[0] > 0 else box


def cut_by_all(parts, box, wanted):
    """Cuts the box by one part after another."""
    for part in parts:
        box = cut_ground(part, box, wanted)
        if box is None:
            return None
    return box


def cut_by_one(parts, box, wanted):
    """Cuts the box if only one of the parts can be as wanted."""
    left = []
    for part in parts:
        piece = cut_ground(part, box, wanted)
        if piece is not None:
            left.append(piece)
    if not left:
        return None
    return left[0] if len(left) == 1 else box


def cut_ground(formula, box, wanted):
    """Cuts the box by a ground formula."""
    word = formula[0]
    if word == "fact":
        return cut_fact(box, formula[1], wanted)
    if word == "not":
        return cut_ground(formula[1], box, not wanted)
    if word == "most":
        return cut_inequality(box, formula[1] if wanted else opposite(formula[1]))
    if word in ("and", "or"):
        if (word == "and") == wanted:
            return cut_by_all(formula[1], box, wanted)
        return cut_by_one(formula[1], box, wanted)
    return box if (word == "true") == wanted else None


def remainder_ground(formula, box):
    """Returns the remainder of the box for a ground formula, or None."""
    left = cut_ground(formula, box, True)
    if left is None or judged_ground(formula, left) == "never":
        return None
    return left


def cut(task, formula, box, wanted):
    """Returns the box that is left if the formula is wanted to hold, or not to hold, or None."""
    return cut_ground(ground_formula(task, formula, {}), box, wanted)


def remainder(task, formula, box):
    """Returns the remainder of the box for the formula, or None."""
    return remainder_ground(ground_formula(task, formula, {}), box)

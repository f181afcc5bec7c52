"""Linear forms and spans of amounts, and what is judged of formulas in a box (points 37 to 40)."""

from sureplan.grounding import ground_amount, ground_formula


def form_span(form, spans):
    """Returns the least and the greatest value of a linear form if the numbers have these spans."""
    low, terms = form
    high = low
    for index, factor in terms:
        ends = spans[index]
        if factor > 0:
            low += factor * ends[0]
            high += factor * ends[1]
        else:
            low += factor * ends[1]
            high += factor * ends[0]
    return (low, high)


def judged_inequality(form, spans):
    low, high = form_span(form, spans)
    if high <= 0:
        return "sure"
    return "never" if low > 0 else "open"


def judged_parts(parts, box, settled, otherwise):
    """Judges parts of which a single settled one settles the whole; the whole is otherwise so if all parts are."""
    is_open = False
    for part in parts:
        verdict = judged_ground(part, box)
        if verdict == settled:
            return settled
        if verdict == "open":
            is_open = True
    return "open" if is_open else otherwise


def judged_ground(formula, box):
    """Judges a ground formula in a box."""
    word = formula[0]
    if word == "fact":
        entry = box[0][formula[1]]
        if entry is None:
            return "open"
        return "sure" if entry else "never"
    if word == "and":
        return judged_parts(formula[1], box, "never", "sure")
    if word == "or":
        return judged_parts(formula[1], box, "sure", "never")
    if word == "not":
        verdict = judged_ground(formula[1], box)
        if verdict == "open":
            return "open"
        return "never" if verdict == "sure" else "sure"
    if word == "most":
        return judged_inequality(formula[1], box[1])
    return "sure" if word == "true" else "never"


def linear_form(task, amount):
    """Returns the constant of the amount and the list of its factors, one for each number."""
    constant, terms = ground_amount(task, amount, {})
    factors = [0] * len(task.all_numbers())
    for index, factor in terms:
        factors[index] = factor
    return (constant, factors)


def span_of(task, amount, box):
    """Returns the least and the greatest value of the amount in the box."""
    return form_span(ground_amount(task, amount, {}), box[1])


def judged(task, formula, box):
    """Returns "sure", "never" or "open"."""
    return judged_ground(ground_formula(task, formula, {}), box)

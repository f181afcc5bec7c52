"""Certificates of the lower bounds (point 71)."""

from sureplan.boxes import whole_box
from sureplan.checks import check_state
from sureplan.cuts import find_cuts
from sureplan.labels import total
from sureplan.levels import levels_and_bound
from sureplan.nesting import nested_lines
from sureplan.patterns import check_patterns, options_of
from sureplan.projecting import cost_from, project_all


def level_shells(found, bound):
    """Returns the boxes of the levels with their labels, the greatest box first: how much less they cost than all."""
    if bound is None:
        return [(found[-1][1], None)]
    shells = []
    for cost, box in found[::-1]:
        # Of several levels with the same cost, only the last one counts.
        if cost < bound and (not shells or shells[-1][1] != bound - cost):
            shells.append((box, bound - cost))
    return shells


def level_lines(task, state):
    """Returns a certificate of the level bound."""
    check_state(task, state)
    found, bound = levels_and_bound(task, state)
    shells = level_shells(found, bound)
    if not shells:
        return [("claim", 0)]
    return [("sum",), ("tree", 1, 1)] + nested_lines(whole_box(task), 0, shells) + [("claim", bound)]


def cut_tree(whole, cut):
    """Returns the lines of a tree for a cut: its amount is paid by the steps that lead out of its box."""
    amount, box, leading = cut
    lines = [("tree", 0, 1)] + [("share", step, amount, least) for step, least in leading]
    return lines + nested_lines(whole, 0, [(box, amount)])


def cut_lines(task, state):
    """Returns a certificate of the cut bound."""
    check_state(task, state)
    found = find_cuts(task, state)
    bound = total([cut[0] for cut in found])
    if bound is None:
        # A box that no step leads out of, and without the goal, is enough.
        found = found[-1:]
    lines = [("sum",)]
    for cut in found:
        lines.extend(cut_tree(whole_box(task), cut))
    return lines + [("claim", bound)]


def part_lines(rows, labels):
    """Returns the lines of a tree with a leaf for each part; the rows are pairs of an item and of what it can be."""
    if len(labels) == 1:
        return [("label", labels[0])]
    item, options = rows[0]
    if len(options) == 1:
        return part_lines(rows[1:], labels)
    half = len(options) // 2
    middle = half * (len(labels) // len(options))
    line = item if item[0] == "fact" else item + (options[half - 1],)
    firsts = part_lines([(item, options[:half])] + rows[1:], labels[:middle])
    return [line] + firsts + part_lines([(item, options[half:])] + rows[1:], labels[middle:])


def projection_tree(projection, outline_box):
    """Returns the lines of a tree with the costs to go of a pattern."""
    lines = [("tree", 0, 1)]
    for step, (p, q) in enumerate(projection.quotients):
        if p > 0:
            lines.append(("share", step, p, q))
    rows = list(zip(projection.pattern, options_of(projection.pattern, outline_box)))
    return lines + part_lines(rows, projection.costs)


def projection_lines(task, patterns, state):
    """Returns a certificate of the projection bound."""
    check_patterns(task, patterns)
    check_state(task, state)
    outline_box, found = project_all(task, patterns, state)
    lines = [("invariant",)] + nested_lines(whole_box(task), None, [(outline_box, 0)]) + [("sum",)]
    for projection in found:
        lines.extend(projection_tree(projection, outline_box))
    return lines + [("claim", total([cost_from(projection, state) for projection in found]))]

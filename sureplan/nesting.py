"""Lines of trees for boxes that lie in one another."""


def narrowing(outer, inner):
    """Returns the splits that lead from a box to a box that lies in it.

    Each is a pair of its line and of whether its first tree is the one that leads on.
    """
    found = []
    for index, (entry, wanted) in enumerate(zip(outer[0], inner[0])):
        if entry is None and wanted is not None:
            found.append((("fact", index), wanted))
    for index, (span, wanted) in enumerate(zip(outer[1], inner[1])):
        if wanted[0] > span[0]:
            found.append((("number", index, wanted[0] - 1), False))
        if wanted[1] < span[1]:
            found.append((("number", index, wanted[1]), True))
    return found


def nested_lines(whole, outside, shells):
    """Returns the lines of a tree with a label for each shell, and the label `outside` outside of all of them.

    The shells are pairs of a box and a label, each box in the one before it; the last box that a state is in counts.
    """
    lines = []
    tail = []
    outer = whole
    label = outside
    for box, inner_label in shells:
        for line, is_first in narrowing(outer, box):
            lines.append(line)
            if is_first:
                tail.append(("label", label))
            else:
                lines.append(("label", label))
        outer = box
        label = inner_label
    lines.append(("label", label))
    return lines + tail[::-1]

"""The needed condition of the rest of a plan, as a decision tree (points 93 to 95).

While a tree is built, the indexes in its nodes count from its own root. So trees are equal if they ask the same.
"""

from sureplan.entries import with_fact, with_number
from sureplan.errors import TooLarge
from sureplan.ownruns import check_listed
from sureplan.rests import MOST_STEPS, Rest

MOST_CASES = 4096
MOST_LEAVES = 200


def moved(tree, by):
    """Returns the nodes of a tree whose root stands this many places further on."""
    return [node if node[0] == "leaf" else node[:-1] + (node[-1] + by,) for node in tree]


def joined(question, first, second):
    """Returns the tree that asks a question and goes on with the first or the second tree."""
    behind = len(first) + 1
    return [question + (behind,)] + moved(first, 1) + moved(second, behind)


class Asking:
    """Builds the tree of a rest: it asks for the facts and then for the numbers that matter, one after another."""

    def __init__(self, rest, ranges):
        self.rest = rest
        self.ranges = ranges
        facts, numbers = rest.marks()
        self.asked = [("fact", fact) for fact in facts] + [("number", number) for number in numbers]

    def count_cases(self):
        many = 1
        for word, index in self.asked:
            low, high = (0, 1) if word == "fact" else self.ranges[index]
            many = many * (high - low + 1)
        return many

    def tree_from(self, state, place):
        """Returns the tree that asks for what is asked from a place on; what stands before is as in the state."""
        if place == len(self.asked):
            return [("leaf", self.rest.fault(state) is None)]
        word, index = self.asked[place]
        if word == "number":
            return self.number_tree(state, place, index)
        first = self.tree_from(with_fact(state, index, True), place + 1)
        second = self.tree_from(with_fact(state, index, False), place + 1)
        return first if first == second else joined(("fact", index), first, second)

    def number_tree(self, state, place, index):
        low, high = self.ranges[index]
        intervals = []
        for value in range(low, high + 1):
            tree = self.tree_from(with_number(state, index, value), place + 1)
            if intervals and intervals[-1][1] == tree:
                intervals[-1] = (value, tree)
            else:
                intervals.append((value, tree))
        whole = intervals[-1][1]
        for value, tree in reversed(intervals[:-1]):
            whole = joined(("number", index, value), tree, whole)
        return whole


def needed(task, steps):
    """Returns the needed condition of the rest."""
    check_listed(task, steps, MOST_STEPS)
    asking = Asking(Rest(task, steps), [entry[2:] for entry in task.all_numbers()])
    if asking.count_cases() > MOST_CASES:
        raise TooLarge("cases")
    tree = asking.tree_from(task.start_state(), 0)
    if len([node for node in tree if node[0] == "leaf"]) > MOST_LEAVES:
        raise TooLarge("leaves")
    return tree


def follow(tree, state):
    """Returns the answer of the leaf to which a decision tree leads in a state."""
    holding, values = state
    place = 0
    while tree[place][0] != "leaf":
        node = tree[place]
        is_first = holding[node[1]] if node[0] == "fact" else values[node[1]] <= node[2]
        place = place + 1 if is_first else node[-1]
    return tree[place][1]

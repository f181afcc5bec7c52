"""Trees which show that no schedule is done before a time (point 87).

An order is a tuple with an integer for each position, whose bits tell which positions come after this one. It is
closed: what comes after a position that comes after this one also comes after this one.
"""

from itertools import combinations

MOST_LINES = 5000


def ordered_pairs(group):
    """Returns the pairs of different positions of a group, in the order of the group."""
    return [(first, second) for first in group for second in group if first != second]


def comes_after(order, first, second):
    return order[first] >> second & 1 == 1


def with_pair(order, first, second):
    """Returns the closed order in which the first position also comes before the second one."""
    behind = order[second] | 1 << second
    return tuple([mask | behind if position == first or mask >> first & 1 == 1 else mask
                  for position, mask in enumerate(order)])


def order_of(pairs, many):
    """Returns the order that keeps the pairs."""
    order = (0,) * many
    for first, second in pairs:
        order = with_pair(order, first, second)
    return order


def longest_chain(order, times):
    """Returns the total time of the longest chain of positions that come one after another, and these positions."""
    found = [None for _ in times]
    # What comes after a position has some of its bits only, so it has been treated before this position.
    for position in sorted(range(len(times)), key=lambda one: order[one]):
        behind = max([found[other] for other in range(len(times)) if comes_after(order, position, other)],
                     default=(0, ()))
        found[position] = (behind[0] + times[position], (position,) + behind[1])
    return max(found, default=(0, ()))


def barred_groups(jobs):
    """Returns the least groups of positions that cannot all be under way at the same time, the smaller ones first."""
    many = len(jobs.times)
    found = []
    for size in range(2, many + 1):
        for group in combinations(range(many), size):
            within = [other for other in found if all([position in group for position in other])]
            if not within and not jobs.can_share(group):
                found.append(group)
    return found


class Branching:
    """Divides orders until each of them has a chain that is long enough."""

    def __init__(self, jobs, end):
        self.times = jobs.times
        self.end = end
        self.groups = [(group, ordered_pairs(group)) for group in barred_groups(jobs)]
        self.chains = {}
        self.smallest = {}

    def chain(self, order):
        """Returns the total time and the positions of the longest chain of an order."""
        if order not in self.chains:
            self.chains[order] = longest_chain(order, self.times)
        return self.chains[order]

    def is_leaf(self, order):
        return self.chain(order)[0] >= self.end

    def undecided(self, order):
        """Returns the groups, with their pairs, of which no two positions come one after the other."""
        return [entry for entry in self.groups
                if not any([comes_after(order, first, second) for first, second in entry[1]])]

    def quick_group(self, order):
        """Returns the group, with its pairs, that leaves the fewest orders which are no leaves."""
        best = None
        for group, pairs in self.undecided(order):
            totals = [self.chain(with_pair(order, first, second))[0] for first, second in pairs]
            short = [self.end - total for total in totals if total < self.end]
            rank = (len(short), sum(short))
            if best is None or rank < best[0]:
                best = (rank, (group, pairs))
        return best[1]

    def smallest_tree(self, order):
        """Returns the least number of lines that an order needs, and the group, with its pairs, to begin with."""
        if order not in self.smallest:
            self.smallest[order] = (1, None) if self.is_leaf(order) else self.smallest_branch(order)
        return self.smallest[order]

    def smallest_branch(self, order):
        best = None
        for entry in self.undecided(order):
            size = 1
            for first, second in entry[1]:
                if best is None or size < best[0]:
                    size += self.smallest_tree(with_pair(order, first, second))[0]
            if best is None or size < best[0]:
                best = (size, entry)
        return best

    def lines(self, order, is_quick):
        """Returns the lines of a tree, or None if it has too many of them."""
        found = []
        waiting = [order]
        while waiting:
            order = waiting.pop()
            if self.is_leaf(order):
                found.append(("chain", self.chain(order)[1]))
            else:
                group, pairs = self.quick_group(order) if is_quick else self.smallest_tree(order)[1]
                found.append(("apart", group))
                waiting.extend([with_pair(order, first, second) for first, second in reversed(pairs)])
            if len(found) + len(waiting) > MOST_LINES:
                return None
        return found

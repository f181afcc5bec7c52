"""Orders in which steps go alike, and the pairs of positions that must stay in order (points 76 to 79)."""

from itertools import permutations

from sureplan.errors import BadValue
from sureplan.names import is_integer
from sureplan.ownruns import OwnRun

MOST_STEPS = 6


def is_order(order, many):
    """Tells if the value is a list that contains each of so many positions once."""
    if not isinstance(order, list) or not all([is_integer(position) for position in order]):
        return False
    return sorted(order) == list(range(many))


def implies(pairs, pair):
    """Tells if pairs imply a pair (point 77)."""
    first, last = pair
    return any([(first, middle) in pairs and (middle, last) in pairs for middle in range(first + 1, last)])


def broken_pairs(order):
    """Returns the pairs that an order does not keep."""
    return [(second, first) for place, first in enumerate(order) for second in order[place + 1:] if second < first]


def keeps(order, pairs):
    """Tells if an order keeps all of the pairs."""
    return not any([pair in pairs for pair in broken_pairs(order)])


def without_pair(pairs, pair):
    return [other for other in pairs if other != pair]


class Ordering:
    """All orders of a list of steps, and the pairs that must stay in order."""

    def __init__(self, run):
        many = len(run.steps)
        self.orders = [list(order) for order in permutations(range(many))]
        self.wrong = [order for order in self.orders if not run.goes_alike(order)]
        self.kept = [(first, first + gap) for gap in range(1, many) for first in range(many - gap)]
        for pair in list(self.kept):
            if not implies(self.kept, pair) and self.first_wrong(pair) is None:
                self.kept = without_pair(self.kept, pair)
        self.direct = sorted([pair for pair in self.kept if not implies(self.kept, pair)])

    def first_wrong(self, pair):
        """Returns the first order that keeps all kept pairs but this one, and in which the steps do not go alike."""
        others = without_pair(self.kept, pair)
        for order in self.wrong:
            if keeps(order, others):
                return order
        return None

    def count_orders(self):
        """Returns the number of orders that keep the direct pairs."""
        return len([order for order in self.orders if keeps(order, self.direct)])


def goes_alike(task, steps, state, order):
    """Tells if the steps go alike in the order."""
    run = OwnRun(task, steps, state, MOST_STEPS)
    if not is_order(order, len(steps)):
        raise BadValue("order")
    return run.goes_alike(order)


def kept_pairs(task, steps, state):
    """Returns the list of the direct pairs and the number of the orders that keep them."""
    ordering = Ordering(OwnRun(task, steps, state, MOST_STEPS))
    return (ordering.direct, ordering.count_orders())


def pair_witnesses(task, steps, state):
    """Returns for each direct pair the first order that keeps all other kept pairs and is not alike."""
    ordering = Ordering(OwnRun(task, steps, state, MOST_STEPS))
    return [list(ordering.first_wrong(pair)) for pair in ordering.direct]

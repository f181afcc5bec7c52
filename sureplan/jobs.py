"""The positions of a list of steps as jobs: their times, what they use, and who disturbs whom (points 83 to 85)."""

from sureplan.orders import Ordering
from sureplan.touching import reads, written


def total_uses(task, step):
    """Returns for each resource that a step uses the amount that it uses together."""
    totals = {}
    for resource, amount in task.uses_of(step):
        totals[resource] = totals.get(resource, 0) + amount
    return totals


def have_common(lists, others):
    """Tells if two pairs of lists of facts and numbers have a fact or a number in common."""
    return any([index in others[side] for side in (0, 1) for index in lists[side]])


def disturbing(task, run):
    """Returns the pairs of positions that disturb one another, in ascending order."""
    read = [reads(task, step) for step in run.steps]
    wrote = [written(run.grounded, before, step) for before, step in zip(run.befores, run.steps)]
    pairs = []
    for first in range(len(run.steps)):
        for second in range(first + 1, len(run.steps)):
            if (have_common(wrote[first], read[second]) or have_common(wrote[second], read[first])
                    or have_common(wrote[first], wrote[second])):
                pairs.append((first, second))
    return pairs


class Jobs:
    """What schedules of a list of steps must keep to."""

    def __init__(self, task, run):
        self.times = [answer[2] for answer in run.answers]
        self.kept = Ordering(run).kept
        self.disturbing = disturbing(task, run)
        self.needs = [total_uses(task, step) for step in run.steps]
        self.capacities = [resource[2] for resource in task.all_resources()]
        self.verdicts = {}

    def fit(self, group):
        """Tells if some positions together use at most the capacity of each resource."""
        for resource, capacity in enumerate(self.capacities):
            if sum([self.needs[position].get(resource, 0) for position in group]) > capacity:
                return False
        return True

    def can_share(self, group):
        """Tells if all of some positions, a tuple, can be under way at the same time, if they need not wait."""
        if group not in self.verdicts:
            apart = any([first in group and second in group for first, second in self.disturbing])
            self.verdicts[group] = not apart and self.fit(group)
        return self.verdicts[group]

    def can_go(self):
        """Tells if no position by itself uses more than there is."""
        return all([self.fit((position,)) for position in range(len(self.times))])

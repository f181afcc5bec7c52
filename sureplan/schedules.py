"""Schedules: what is under way at the same time, and the schedule that is done first (points 83 to 86)."""

from sureplan.checks import check_step
from sureplan.jobs import Jobs, disturbing, total_uses
from sureplan.orders import MOST_STEPS
from sureplan.ownruns import OwnRun


def end_of(starts, times):
    """Returns the greatest end of the positions that have a start, or 0 if there is none."""
    return max([start + time for start, time in zip(starts, times) if start is not None], default=0)


def under_way(starts, times, now):
    """Returns the positions that are under way at a time."""
    return tuple([position for position, start in enumerate(starts)
                  if start is not None and start <= now < start + times[position]])


class Filling:
    """Gives one position after another a start, in all ways that can lead to the first schedule.

    In the first schedule no position could start earlier while the others stay, since that would come before it. So it
    is found if the positions are taken in the order of their starts, and each of them starts as soon as it can.
    """

    def __init__(self, jobs, times):
        self.jobs = jobs
        self.times = times
        self.best = None
        self.fill([None for _ in times], 0)

    def fill(self, starts, now):
        left = [position for position, start in enumerate(starts) if start is None]
        if not left:
            self.offer(starts)
        for position in left:
            waits_for = [first for first, second in self.jobs.kept if second == position]
            if not any([first in left for first in waits_for]):
                longer = list(starts)
                ready = [starts[first] + self.times[first] for first in waits_for]
                longer[position] = self.soonest_start(position, starts, max([now] + ready))
                if self.best is None or end_of(longer, self.times) <= self.best[0]:
                    self.fill(longer, longer[position])

    def soonest_start(self, position, starts, ready):
        """Returns the first time from `ready` on at which nothing that is under way bars the position."""
        ends = [start + time for start, time in zip(starts, self.times) if start is not None]
        for now in sorted([ready] + [end for end in ends if end > ready]):
            if self.jobs.can_share(tuple(sorted(under_way(starts, self.times, now) + (position,)))):
                return now
        return None

    def offer(self, starts):
        found = (end_of(starts, self.times), starts)
        if self.best is None or found < self.best:
            self.best = found


def first_schedule(jobs, times):
    """Returns when the first schedule is done and the list of its starts, if the jobs took these times."""
    return Filling(jobs, times).best


def is_critical(jobs, position, end):
    """Tells if all would be done later if a position took 1 more."""
    times = list(jobs.times)
    times[position] += 1
    return first_schedule(jobs, times)[0] > end


def uses(task, step):
    """Returns the pairs of a resource and of the amount that the step uses of it, in ascending order."""
    check_step(task, step)
    return sorted(total_uses(task, step).items())


def disturbing_pairs(task, steps, state):
    """Returns the pairs of positions that disturb one another, in ascending order."""
    return disturbing(task, OwnRun(task, steps, state, MOST_STEPS))


def is_schedule(task, steps, state, starts):
    """Tells if the starts are a schedule."""
    jobs = Jobs(task, OwnRun(task, steps, state, MOST_STEPS))
    times = jobs.times
    if len(starts) != len(times) or any([start < 0 for start in starts]):
        return False
    if any([starts[first] + times[first] > starts[second] for first, second in jobs.kept]):
        return False
    return all([jobs.can_share(under_way(starts, times, now)) for now in starts])


def schedule(task, steps, state):
    """Returns when the first schedule is done, its starts and its critical positions, or None if there is none."""
    jobs = Jobs(task, OwnRun(task, steps, state, MOST_STEPS))
    if not jobs.can_go():
        return None
    end, starts = first_schedule(jobs, jobs.times)
    return (end, starts, [position for position in range(len(starts)) if is_critical(jobs, position, end)])

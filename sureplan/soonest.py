"""Certificates that no schedule is done sooner than at a time (point 87)."""

from sureplan.branching import Branching, order_of, ordered_pairs
from sureplan.errors import TooLarge
from sureplan.jobs import Jobs
from sureplan.names import is_integer
from sureplan.orders import MOST_STEPS
from sureplan.ownruns import OwnRun
from sureplan.schedules import first_schedule


def is_line(line, many):
    """Tells if the value is a line about some of so many positions."""
    if not isinstance(line, tuple) or len(line) != 2 or not isinstance(line[1], tuple):
        return False
    return all([is_integer(position) and 0 <= position < many for position in line[1]])


class Reading:
    """Reads the lines of a certificate; pairs that are known are kept as the bits of an integer."""

    def __init__(self, jobs, time):
        self.jobs = jobs
        self.time = time
        self.expected = [self.bits(jobs.kept)]

    def bits(self, pairs):
        """Returns the integer with a bit for each of the pairs."""
        total = 0
        for first, second in pairs:
            total = total | 1 << first * len(self.jobs.times) + second
        return total

    def is_chain(self, known, positions):
        """Tells if a chain is right where these pairs are known."""
        pairs = list(zip(positions, positions[1:]))
        if self.bits(pairs) & known != self.bits(pairs):
            return False
        return sum([self.jobs.times[position] for position in positions]) >= self.time

    def takes(self, line):
        """Reads the next line, and tells if it is right."""
        if not self.expected or not is_line(line, len(self.jobs.times)):
            return False
        word, positions = line
        known = self.expected.pop()
        if word == "chain":
            return self.is_chain(known, positions)
        if word != "apart" or len(positions) < 2 or len(set(positions)) < len(positions):
            return False
        children = [known | self.bits([pair]) for pair in ordered_pairs(positions)]
        self.expected.extend(list(reversed(children)))
        return not self.jobs.can_share(positions)


def soonest_certificate(task, steps, state):
    """Returns a certificate for the time at which the first schedule is done, or None if there is no schedule."""
    jobs = Jobs(task, OwnRun(task, steps, state, MOST_STEPS))
    if not jobs.can_go():
        return None
    branching = Branching(jobs, first_schedule(jobs, jobs.times)[0])
    root = order_of(jobs.kept, len(jobs.times))
    # The smallest tree takes long to find, and a quick one is seldom too large.
    lines = branching.lines(root, True)
    if lines is None:
        lines = branching.lines(root, False)
    if lines is None:
        raise TooLarge("certificate")
    return lines


def accepts_soonest(task, steps, state, time, lines):
    """Tells if the lines are accepted as a certificate for the time."""
    reading = Reading(Jobs(task, OwnRun(task, steps, state, MOST_STEPS)), time)
    return all([reading.takes(line) for line in lines]) and not reading.expected

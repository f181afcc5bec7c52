"""A second, direct reading of the chapter on schedules."""

from itertools import combinations, permutations, product

import orderoracle


def uses(task, step):
    return sorted((index, sum(amount for other, amount in task.uses_of(step) if other == index))
                  for index in {index for index, _ in task.uses_of(step)})


def times(task, steps, state):
    return [answer[1] for _, answer in orderoracle.run(task, steps, state, range(len(steps)))[0]]


def disturbing_pairs(task, steps, state):
    wrote = []
    for position, step in enumerate(steps):
        before = orderoracle.run(task, steps, state, range(position))[1]
        wrote.append(orderoracle.writes(task, before, step))
    read = [orderoracle.reads(task, step) for step in steps]

    def meet(lists, others):
        return set(lists[0]) & set(others[0]) or set(lists[1]) & set(others[1])
    return [(i, j) for i, j in combinations(range(len(steps)), 2)
            if meet(wrote[i], read[j]) or meet(wrote[j], read[i]) or meet(wrote[i], wrote[j])]


class Facts:
    """What counts for a schedule; `times` may be changed."""

    def __init__(self, task, steps, state):
        self.times = times(task, steps, state)
        self.kept = orderoracle.kept_pairs(task, steps, state)[0]
        self.disturbing = disturbing_pairs(task, steps, state)
        self.uses = [uses(task, step) for step in steps]
        self.capacities = [capacity for _, _, capacity in task.all_resources()]

    def enough(self, positions):
        return all(sum(amount for position in positions for other, amount in self.uses[position] if other == index)
                   <= capacity for index, capacity in enumerate(self.capacities))

    def is_schedule(self, starts):
        ends = [start + time for start, time in zip(starts, self.times)]
        if len(starts) != len(self.times) or min(starts, default=0) < 0:
            return False
        for i, j in self.kept:
            if ends[i] > starts[j]:
                return False
        for now in range(max(ends, default=0)):
            going = [position for position in range(len(starts)) if starts[position] <= now < ends[position]]
            if not self.enough(going) or set(combinations(going, 2)) & set(self.disturbing):
                return False
        return True

    def first(self):
        """The first of all schedules: when it is done, and its starts. It is done when all can go one after another."""
        latest = sum(self.times)
        found = None
        for starts in product(*[range(latest - time + 1) for time in self.times]):
            done = max((start + time for start, time in zip(starts, self.times)), default=0)
            if (found is None or (done, starts) < found) and self.is_schedule(starts):
                found = (done, starts)
        return found and (found[0], list(found[1]))

    def schedule(self):
        found = self.first()
        if found is None:
            return None
        critical = []
        for position in range(len(self.times)):
            self.times[position] += 1
            if self.first()[0] > found[0]:
                critical.append(position)
            self.times[position] -= 1
        return found + (critical,)

    def read(self, lines, known, time):
        """Reads one tree from the front of the lines; the lines behind it, or None."""
        if not lines:
            return None
        (word, positions), rest = lines[0], lines[1:]
        if not all(position in range(len(self.times)) for position in positions):
            return None
        if word == "chain":
            right = all(pair in self.kept or pair in known for pair in zip(positions, positions[1:]))
            return rest if right and sum(self.times[position] for position in positions) >= time else None
        if word != "apart" or len(positions) < 2 or len(set(positions)) < len(positions):
            return None
        if self.enough(positions) and not any(tuple(sorted(pair)) in self.disturbing
                                              for pair in combinations(positions, 2)):
            return None
        for pair in permutations(positions, 2):
            rest = None if rest is None else self.read(rest, known + [pair], time)
        return rest

    def accepts(self, time, lines):
        return self.read(lines, [], time) == []

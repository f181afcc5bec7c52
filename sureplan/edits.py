"""Ways through the reached states that change a list of steps into a plan (point 98).

A way stands at a place (the place of a state) and at a position of the list. It goes on to the next position if it
deletes the step there, to another place if it inserts a step, and both if it keeps the step. What it takes is counted
as one integer: an edit counts more than any number of steps, and a step counts 1.
"""

from heapq import heappop, heappush

EDIT = 1000000
KEEP = 1
INSERT = 1000001


def places_before(arcs):
    """Returns for each place the places from which an arc leads to it, each once."""
    into = [[] for _ in arcs]
    for place, leaving in enumerate(arcs):
        for target in sorted({leaving[step] for step in leaving}):
            into[target].append(place)
    return into


class EditWays:
    """The ways that take the least from each place and position to the end of the list at one of the ends.

    For each place, the arcs give the places to which its steps lead, in ascending order of the steps. From all of these
    places some end can be reached.
    """

    def __init__(self, old, arcs, ends):
        self.old = old
        self.arcs = arcs
        self.into = places_before(arcs)
        last = [None for _ in arcs]
        for place in ends:
            last[place] = 0
        self.rows = [self.with_insertions(last, ends)]
        for step in reversed(old):
            self.rows.append(self.row_before(step))
        self.rows.reverse()

    def row_before(self, step):
        """Returns what each place takes at the position of a step, which is before that of the last row."""
        behind = self.rows[-1]
        found = [None if taken is None else taken + EDIT for taken in behind]
        keeping = []
        for place, leaving in enumerate(self.arcs):
            target = leaving.get(step)
            if target is not None:
                # A step that can be kept could also be deleted and inserted, so there is a value already.
                found[place] = min(found[place], behind[target] + KEEP)
                keeping.append(place)
        # Inserting steps before the others saves nothing, since it saved nothing behind the deleted step.
        return self.with_insertions(found, keeping)

    def with_insertions(self, row, places):
        """Returns what each place takes if steps may be inserted before one of some places is reached."""
        found = list(row)
        queue = []
        for place in places:
            heappush(queue, (found[place], place))
        while queue:
            taken, place = heappop(queue)
            if found[place] == taken:
                for before in self.into[place]:
                    if found[before] is None or taken + INSERT < found[before]:
                        found[before] = taken + INSERT
                        heappush(queue, (taken + INSERT, before))
        return found

    def is_least(self, here, behind, taken):
        """Tells if a way that takes so much between two pairs of a position and a place takes the least."""
        return self.rows[here[0]][here[1]] == self.rows[behind[0]][behind[1]] + taken

    def after_deletions(self, positions, place):
        """Returns the positions together with those to which least ways lead that delete steps first."""
        found = {}
        for start in positions:
            position = start
            found[position] = True
            while position < len(self.old) and self.is_least((position, place), (position + 1, place), EDIT):
                position += 1
                found[position] = True
        return sorted(found)

    def after_step(self, positions, place, step):
        """Returns the positions at which least ways from a place and one of the positions stand after a step."""
        target = self.arcs[place][step]
        found = {}
        for position in positions:
            if position < len(self.old) and self.old[position] == step:
                if self.is_least((position, place), (position + 1, target), KEEP):
                    found[position + 1] = True
            if self.is_least((position, place), (position, target), INSERT):
                found[position] = True
        return self.after_deletions(sorted(found), target)

    def first_step(self, positions, place):
        """Returns the least step that least ways take, and the positions after it."""
        for step in self.arcs[place]:
            after = self.after_step(positions, place, step)
            if after:
                return (step, after)
        return None

    def first_steps(self, place):
        """Returns the steps of the first of the plans that take the least from a place and the whole list."""
        steps = []
        positions = self.after_deletions([0], place)
        for _ in range(self.rows[0][place] % EDIT):
            step, positions = self.first_step(positions, place)
            place = self.arcs[place][step]
            steps.append(step)
        return steps

"""Projections: the costs to go of the parts of patterns, and the rests that they leave (points 69 and 70)."""

from heapq import heappop, heappush

from sureplan.boxmoves import BoxMoves
from sureplan.cutting import remainder_ground
from sureplan.grounded import Grounded
from sureplan.grounding import ground_formula
from sureplan.outline import outline_of
from sureplan.patterns import check_sizes, part_of, parts_of
from sureplan.quotients import exceeds, minus, whole_part


class Ways:
    """The ways of a pattern. A bundle has the parts that a step leads to from a part; equal bundles are kept once."""

    def __init__(self, pattern, parts):
        self.pattern = pattern
        self.places = {chosen: place for place, chosen in enumerate(parts)}
        self.bundles = {}
        self.bundles_of = [[] for _ in parts]
        self.users = []
        self.rows = []

    def add_ways(self, place, step, least, left, after):
        """Adds the ways of a step from a part to all parts that have something in common with the box after it."""
        bundle = self.bundle_of(after)
        self.rows.append((place, step, least, bundle))
        self.users[bundle].append((place, left))

    def bundle_of(self, after):
        """Returns the number of the bundle of the parts that have something in common with a box."""
        key = tuple([after[0][index] if word == "fact" else after[1][index] for word, index in self.pattern])
        if key not in self.bundles:
            # The box after a step from a part lies in the outline, so only the items of the pattern matter.
            for chosen in parts_of(self.pattern, after):
                self.bundles_of[self.places[chosen]].append(len(self.users))
            self.bundles[key] = len(self.users)
            self.users.append([])
        return self.bundles[key]


def costs_to_go(ways, ends):
    """Returns the costs to go of all parts, and the least cost to go of the parts of each bundle."""
    costs = [None for _ in ways.bundles_of]
    bundle_costs = [None for _ in ways.users]
    queue = []
    for place in ends:
        heappush(queue, (0, place))
    while queue:
        cost, place = heappop(queue)
        if costs[place] is None:
            costs[place] = cost
            for bundle in ways.bundles_of[place]:
                if bundle_costs[bundle] is None:
                    bundle_costs[bundle] = cost
                    for before, left in ways.users[bundle]:
                        heappush(queue, (cost + left, before))
    return (costs, bundle_costs)


def greatest_quotients(ways, costs, bundle_costs, steps):
    """Returns for each step the greatest quotient of what its ways save and what the step costs at least there."""
    found = [(0, 1)] * steps
    for place, step, least, bundle in ways.rows:
        after = bundle_costs[bundle]
        if costs[place] is not None and after is not None and after < costs[place]:
            quotient = (costs[place] - after, least)
            if exceeds(quotient, found[step]):
                found[step] = quotient
    return found


class Projection:
    """One pattern: its parts, their costs to go, and what it takes of the rest of each step."""

    def __init__(self, pattern, chosen, boxes, costs, quotients):
        self.pattern = pattern
        self.chosen = chosen
        self.boxes = boxes
        self.costs = costs
        self.quotients = quotients


class Projector:
    """Treats patterns one after another."""

    def __init__(self, task, state):
        self.moves = BoxMoves(Grounded(task))
        self.goal = ground_formula(task, task.goal, {})
        self.steps = self.moves.grounded.many
        self.rests = [(1, 1)] * self.steps
        self.outline_box = outline_of(self.moves, state)

    def ways_of(self, pattern, chosen, boxes):
        """Returns the ways of a pattern with these parts."""
        ways = Ways(pattern, chosen)
        for place, box in enumerate(boxes):
            for step, least, after in self.moves.steps_from(box):
                ways.add_ways(place, step, least, whole_part(self.rests[step], least), after)
        return ways

    def project(self, pattern):
        """Returns the projection of a pattern, and reduces the rests."""
        chosen = parts_of(pattern, self.outline_box)
        boxes = [part_of(pattern, options, self.outline_box) for options in chosen]
        ways = self.ways_of(pattern, chosen, boxes)
        ends = [place for place, box in enumerate(boxes) if remainder_ground(self.goal, box) is not None]
        costs, bundle_costs = costs_to_go(ways, ends)
        quotients = greatest_quotients(ways, costs, bundle_costs, self.steps)
        self.rests = [minus(rest, quotient) for rest, quotient in zip(self.rests, quotients)]
        return Projection(pattern, chosen, boxes, costs, quotients)


def project_all(task, patterns, state):
    """Returns the outline of the state and the projections of all patterns."""
    projector = Projector(task, state)
    check_sizes(patterns, projector.outline_box)
    return (projector.outline_box, [projector.project(pattern) for pattern in patterns])


def cost_from(projection, state):
    """Returns the cost to go of the part that contains the state."""
    holding, given = state
    chosen = tuple([holding[index] if word == "fact" else given[index] for word, index in projection.pattern])
    return projection.costs[projection.chosen.index(chosen)]

"""A second, direct reading of the chapter on certificates, against which the program is compared."""

from fractions import Fraction

import boxoracle

INFINITE = float("inf")
ITEMS = {"invariant": "", "sum": "", "lean": "", "tree": "nn", "share": "nnn", "fact": "n", "number": "nc", "label": "v",
         "claim": "v"}


def size(label):
    return INFINITE if label is None else label


def common(first, second):
    """The common box of two boxes, or None."""
    if any({a, b} == {True, False} for a, b in zip(first[0], second[0])):
        return None
    spans = tuple((max(a, c), min(b, d)) for (a, b), (c, d) in zip(first[1], second[1]))
    if any(low > high for low, high in spans):
        return None
    return (tuple(b if a is None else a for a, b in zip(first[0], second[0])), spans)


def whole(task):
    return ((None,) * len(task.all_facts()), tuple(number[2:] for number in task.all_numbers()))


def side(task, line, first):
    """The box of the states on one side of a split, or None if there are none."""
    facts, spans = whole(task)
    index = line[1]
    if line[0] == "fact":
        return (facts[:index] + (first,) + facts[index + 1:], spans)
    low, high = spans[index]
    low, high = (low, min(high, line[2])) if first else (max(low, line[2] + 1), high)
    return (facts, spans[:index] + ((low, high),) + spans[index + 1:]) if low <= high else None


def both(first, second):
    return None if first is None or second is None else common(first, second)


def parsed(task, lines, box):
    """The leaves of a tree, pairs of a label and a box or None, and the lines behind the tree."""
    if lines[0][0] == "label":
        return [(lines[0][1], box)], lines[1:]
    first, lines_left = parsed(task, lines[1:], both(box, side(task, lines[0], True)))
    second, lines_left = parsed(task, lines_left, both(box, side(task, lines[0], False)))
    return first + second, lines_left


def due(lines):
    """How many trees are due after some lines of a tree."""
    return 1 + sum(-1 if line[0] == "label" else 1 for line in lines)


def is_item(letter, part):
    if letter == "v" and part is None:
        return True
    return type(part) is int and (letter == "c" or part >= 0)


class SlowTree:
    def __init__(self, task, shares, lines):
        self.shares = shares
        self.lines = lines
        self.leaves = [leaf for leaf in parsed(task, lines, whole(task))[0] if leaf[1] is not None]

    def label_of(self, state):
        box = (state[0], tuple((value, value) for value in state[1]))
        return [label for label, own in self.leaves if common(own, box)][0]


class SlowJudge:
    def __init__(self, task, state, goal):
        self.task, self.state, self.goal = task, state, goal
        self.inside = [whole(task)]
        self.layers = []
        self.building = None
        self.right_lines = []
        self.answers = {}

    def claim(self):
        claims = [size(line[1]) for line in self.right_lines if line[0] == "claim"]
        return None if not claims else "none" if max(claims) == INFINITE else max(claims)

    def steps_from(self, box):
        if box not in self.answers:
            answers = [(step, boxoracle.step_from(self.task, step, box)) for step in range(len(self.task.all_steps()))]
            self.answers[box] = [(step,) + answer for step, answer in answers if answer]
        return self.answers[box]

    def may_end(self, box):
        left = boxoracle.cut(self.task, self.goal, box, True)
        return left is not None and boxoracle.judged(self.task, self.goal, left) != "never"

    def pieces(self, box):
        return [piece for piece in [common(own, box) for own in self.inside] if piece]

    def value(self, layers, least):
        """The greatest of 0 and the totals of what `least` tells of the trees of each layer."""
        return max([0] + [sum(least(tree) for tree in trees) for _, trees in layers])

    def known(self, layers, box):
        pieces = self.pieces(box)
        return self.value(layers, lambda tree: min([INFINITE] + [size(label) for label, own in tree.leaves
                                                                 if any(common(own, piece) for piece in pieces)]))

    def start_value(self):
        return self.value(self.layers, lambda tree: size(tree.label_of(self.state)))

    def line(self, line):
        reason = self.reason(line)
        if reason != "right":
            return reason
        word = line[0]
        if word == "label" and due(self.building[1] + [line]) == 0:
            reason = self.finish(self.building[1] + [line])
        elif word in ("fact", "number", "label"):
            self.building[1].append(line)
        elif word == "share":
            self.building[0].append(line)
        elif word in ("tree", "invariant"):
            self.building = ([line], [])
        elif word in ("sum", "lean"):
            self.layers.append((word, []))
        elif size(line[1]) > self.start_value():
            reason = "claim"
        if reason == "right":
            self.right_lines.append(line)
        return reason

    def reason(self, line):
        if type(line) is not tuple or not line or type(line[0]) is not str or line[0] not in ITEMS:
            return "kind"
        letters = ITEMS[line[0]]
        if len(letters) != len(line) - 1 or not all(is_item(a, b) for a, b in zip(letters, line[1:])):
            return "form"
        if self.is_late(line[0]):
            return "order"
        if line[0] == "share":
            told = [one[1] for one in self.building[0][1:]]
            if line[1] >= len(self.task.all_steps()) or line[1] in told:
                return "index"
        if line[0] == "fact" and line[1] >= len(self.task.all_facts()):
            return "index"
        if line[0] == "number" and line[1] >= len(self.task.all_numbers()):
            return "index"
        if line[0] in ("tree", "share"):
            p, q = line[-2:]
            if q == 0 or p > q or line[0] == "tree" and self.layers[-1][0] == "lean" and p != q:
                return "share"
        return "right"

    def is_late(self, word):
        building = self.building is not None
        if word == "invariant":
            return bool(self.right_lines)
        if word in ("sum", "lean", "claim"):
            return building
        if word == "tree":
            return building or not self.layers or len(self.layers[-1][1]) >= (500 if self.layers[-1][0] == "sum" else 1)
        if word == "share":
            return (not building or self.building[0][0][0] != "tree" or self.layers[-1][0] == "lean"
                    or bool(self.building[1]))
        return not building

    def finish(self, lines):
        if self.building[0][0][0] == "invariant":
            tree = SlowTree(self.task, None, lines)
            reason = self.inside_reason(tree)
            if reason == "right":
                self.inside = [box for label, box in tree.leaves if label is not None]
        else:
            head = self.building[0]
            shares = [Fraction(*head[0][1:])] * len(self.task.all_steps())
            for _, step, p, q in head[1:]:
                shares[step] = Fraction(p, q)
            tree = SlowTree(self.task, shares, lines)
            reason = self.layer_reason(tree)
            if reason == "right":
                self.layers[-1][1].append(tree)
        if reason == "right":
            self.building = None
        return reason

    def inside_reason(self, tree):
        if tree.label_of(self.state) is None:
            return "start"
        for label, box in tree.leaves:
            if label is not None:
                for _, _, after in self.steps_from(box):
                    if any(other is None and common(after, own) for other, own in tree.leaves):
                        return "step"
        return "right"

    def layer_reason(self, tree):
        word, trees = self.layers[-1]
        if any(sum(column) > 1 for column in zip(*[one.shares for one in trees + [tree]])):
            return "share"
        if any(self.may_end(piece) for label, box in tree.leaves if label != 0 for piece in self.pieces(box)):
            return "goal"
        for label, box in tree.leaves:
            for piece in self.pieces(box):
                for step, cost, after in self.steps_from(piece):
                    if self.is_too_great(word, tree, label, tree.shares[step] * cost, after):
                        return "step"
        return "right"

    def is_too_great(self, word, tree, label, cost, after):
        for other, own in tree.leaves:
            for piece in self.pieces(after):
                meeting = common(piece, own)
                if meeting:
                    worth = size(other)
                    if word == "lean":
                        worth = max(worth, self.known(self.layers[:-1], meeting))
                    if worth != INFINITE and size(label) > cost + worth:
                        return True
        return False


def grouped(judge):
    """The whole of a judge: the lines of the tree for the inside or None, and layers: a word and trees."""
    inside, layers, trees = None, [], []
    at = None
    for line in judge.right_lines:
        if line[0] == "invariant":
            at = inside = []
        elif line[0] in ("sum", "lean"):
            trees = []
            layers.append((line[0], trees))
        elif line[0] == "tree":
            at = []
            trees.append(([line], at))
        elif line[0] == "share":
            trees[-1][0].append(line)
        elif line[0] != "claim":
            at.append(line)
    if judge.building is not None:
        trees.pop()
    return inside, layers


def lines_of(inside, layers, claim):
    lines = [] if inside is None else [("invariant",)] + inside
    for word, trees in layers:
        lines = lines + [(word,)] + [line for head, body in trees for line in head + body]
    return lines + [("claim", claim)]


def without(rows, place):
    return rows[:place] + rows[place + 1:]


def cropped(lines):
    """Every tree in which one split is replaced by a leaf."""
    for place, line in enumerate(lines):
        if line[0] != "label":
            end = place + 1
            while due(lines[place:end]) > 0:
                end += 1
            labels = [one[1] for one in lines[place:end] if one[0] == "label"]
            yield lines[:place] + [("label", min(labels, key=size))] + lines[end:]


def reductions(inside, layers):
    for place in reversed(range(len(layers))):
        yield inside, without(layers, place)
    for place, (word, trees) in enumerate(layers):
        for number in reversed(range(len(trees))):
            yield inside, layers[:place] + [(word, without(trees, number))] + layers[place + 1:]
    for place, (word, trees) in enumerate(layers):
        for number, (head, body) in enumerate(trees):
            for smaller in cropped(body):
                changed = trees[:number] + [(head, smaller)] + trees[number + 1:]
                yield inside, layers[:place] + [(word, changed)] + layers[place + 1:]
    if inside is not None:
        for smaller in cropped(inside):
            yield smaller, layers
        yield None, layers


def trimmed(judge_of, lines):
    """What `trimmed` is to return; `judge_of` makes a new slow judge."""
    judge = judge_of()
    for line in lines:
        judge.line(line)
    claim = judge.claim()
    if claim is None:
        return None
    claim = None if claim == "none" else claim

    def is_right(whole_lines):
        fresh = judge_of()
        fresh.answers = judge.answers
        return all(fresh.line(line) == "right" for line in whole_lines)

    now = grouped(judge)
    found = True
    while found:
        found = False
        for smaller in reductions(*now):
            if is_right(lines_of(*smaller, claim)):
                now, found = smaller, True
                break
    return lines_of(*now, claim)

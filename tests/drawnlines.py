"""Draws the lines of certificates from a random source with a fixed seed."""

from fractions import Fraction

from boundoracle import box_of
from judgeoracle import INFINITE, SlowJudge, SlowTree, common, parsed, whole


class DrawnLines:
    """Draws lines that a slow judge finds right: trees with random splits, and the greatest labels that are right."""

    def __init__(self, source, judge, most=9):
        self.source = source
        self.judge = judge
        self.most = most

    def split(self):
        task = self.judge.task
        places = [("fact", k) for k in range(len(task.all_facts()))]
        for k, number in enumerate(task.all_numbers()):
            places += [("number", k, self.source.randint(number[2] - 1, number[3]))] * 2
        return self.source.choice(places)

    def splits(self, depth):
        """The lines of a tree with the label 0 for all leaves."""
        if depth == 0 or self.source.random() < 0.25:
            return [("label", 0)]
        return [self.split()] + self.splits(depth - 1) + self.splits(depth - 1)

    def tree(self, head, shares, word):
        """The lines of a tree of a layer, with greatest labels, some of them lowered."""
        lines = self.splits(self.source.randint(0, 6))
        caps = [self.source.choice((0, 1, 2, self.most, self.most, None)) for line in lines]
        lines = [line if line[0] != "label" else ("label", cap) for line, cap in zip(lines, caps)]
        while True:
            worse = self.wrong_leaf(SlowTree(self.judge.task, shares, lines), word)
            if worse is None:
                return head + lines
            place, label = worse
            leaves = [k for k, line in enumerate(lines) if line[0] == "label"]
            lines = lines[:leaves[place]] + [("label", label)] + lines[leaves[place] + 1:]

    def wrong_leaf(self, tree, word):
        """The number of a leaf whose label is too great, with a lesser label, or None."""
        judge = self.judge
        for place, (label, box) in enumerate(parsed(judge.task, tree.lines, whole(judge.task))[0]):
            if box is None or label == 0:
                continue
            lower = self.most if label is None else label - 1
            for piece in judge.pieces(box):
                if judge.may_end(piece):
                    return place, 0
                for step, cost, after in judge.steps_from(piece):
                    if judge.is_too_great(word, tree, label, tree.shares[step] * cost, after):
                        return place, lower
        return None

    def inside(self, depth=4):
        """The lines of a tree for the inside: some splits, and as few labels other than None as can be."""
        lines = [("label", None) if line[0] == "label" else line for line in self.splits(depth)]
        places = [place for place, line in enumerate(lines) if line[0] == "label"]
        while self.judge.inside_reason(SlowTree(self.judge.task, None, lines)) != "right":
            leaves = parsed(self.judge.task, lines, whole(self.judge.task))[0]
            reached = [box_of(self.judge.state)]
            for label, box in leaves:
                if label is not None and box is not None:
                    reached += [after for _, _, after in self.judge.steps_from(box)]
            for place, (_, box) in zip(places, leaves):
                if box is not None and any(common(box, other) for other in reached):
                    lines[place] = ("label", self.source.choice((0, 2)))
        return [("invariant",)] + lines

    def share(self):
        q = self.source.randint(1, 4)
        return (self.source.randint(0, q), q)

    def pass_on(self, lines):
        """Passes lines to the slow judge; tells if all are right."""
        return all([self.judge.line(line) == "right" for line in lines])

    def layer(self, found):
        """Adds a layer with some trees to the lines that were found."""
        word = self.source.choice(("sum", "sum", "lean"))
        self.add(found, [(word,)])
        steps = len(self.judge.task.all_steps())
        left = [Fraction(1)] * steps
        for _ in range(1 if word == "lean" else self.source.randint(1, 3)):
            shares = [Fraction(1)] * steps
            head = [("tree", 1, 1)]
            if word == "sum" and self.source.random() < 0.7:
                head, shares = self.head(left)
            if all(share <= rest for share, rest in zip(shares, left)):
                left = [rest - share for share, rest in zip(shares, left)]
                self.add(found, self.tree(head, shares, word))

    def head(self, left):
        """The lines that tell the shares of a tree, and the shares."""
        p, q = self.share()
        head, shares = [("tree", p, q)], [Fraction(p, q)] * len(left)
        for step, rest in enumerate(left):
            if shares[step] > rest or self.source.random() < 0.3:
                shares[step] = rest * self.source.randint(0, 2) / 2
                head.append(("share", step) + shares[step].as_integer_ratio())
        return head, shares

    def add(self, found, lines):
        assert self.pass_on(lines), lines
        found.extend(lines)

    def certificate(self):
        """Lines that are right, with claims up to the value at the start."""
        found = []
        if self.source.random() < 0.5:
            self.add(found, self.inside())
        for _ in range(self.source.randint(1, 3)):
            self.layer(found)
            value = self.judge.start_value()
            if self.source.random() < 0.4:
                self.add(found, [("claim", 0)])
        self.add(found, [("claim", None if value == INFINITE else value)])
        return found


def spoiled(source, line):
    """A line that is like the given one, but for one item or two."""
    junk = (-1, 0, 1, 2, 3, 7, 10 ** 12, None, True, False, "fact", "sum", (), (1,), [1], 1.0)
    items = list(line)
    for _ in range(source.randint(1, 2)):
        change = source.random()
        if change < 0.6 and items:
            items[source.randrange(len(items))] = source.choice(junk)
        elif change < 0.8:
            items.append(source.choice(junk))
        elif items:
            items.pop()
    return source.choice((tuple, tuple, tuple, tuple, list))(items)


def plain_line(source, facts, numbers, steps):
    """Any line of a right form; most of its indexes exist."""
    small = source.randint(0, 4)
    label = source.choice((0, 0, 0, 1, 2, 3, None))
    return source.choice((
        ("invariant",), ("sum",), ("lean",), ("tree", 1, 1), ("tree", small, source.randint(0, 4)), ("tree", 0, 1),
        ("share", source.randint(0, steps), small, source.randint(0, 4)), ("fact", source.randint(0, facts)),
        ("number", source.randint(0, numbers), source.randint(-1, 3)), ("label", label), ("label", label),
        ("label", label), ("label", 0), ("claim", label),
    ))


def slow_judge(task, state, goal=None):
    return SlowJudge(task, state, task.goal if goal is None else goal)

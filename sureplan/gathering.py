"""Gathers the effects of a step in a box: each is certain, uncertain or left out (points 43 and 45)."""

from sureplan.conditions import form_span, judged_ground


def common_span(spans):
    """Returns the common part of spans; low is greater than high if there is none."""
    return (max([span[0] for span in spans]), min([span[1] for span in spans]))


class FactChange:
    """What is gathered for one fact."""

    def __init__(self):
        self.surely = {}
        self.maybe = {}

    def gather(self, entry, certain):
        if certain:
            self.surely[entry] = True
        else:
            self.maybe[entry] = True

    def clashes(self):
        """Tells if the fact is both certainly made and certainly unmade."""
        return len(self.surely) == 2

    def entry_after(self, entry):
        """Returns the entry of the fact after the step, from its entry before the step."""
        for sure in (True, False):
            if sure in self.surely:
                return sure
        for possible in (True, False):
            if possible in self.maybe and entry != possible:
                return None
        return entry


class NumberChange:
    """What is gathered for one number: the spans of its settings and of its additions."""

    def __init__(self):
        self.settings = []
        self.additions = []
        self.maybe_settings = []
        self.maybe_additions = []

    def gather_setting(self, span, certain):
        if certain:
            self.settings.append(span)
        else:
            self.maybe_settings.append(span)

    def gather_addition(self, span, certain):
        if certain:
            self.additions.append(span)
        else:
            self.maybe_additions.append(span)

    def clashes(self):
        """Tells if the number is both certainly set and certainly added to."""
        return bool(self.settings) and bool(self.additions)

    def span_after(self, span):
        """Returns the span of the number after the step, from its span before the step; its range is not looked at."""
        if self.settings:
            return common_span(self.settings)
        low, high = span
        for less, more in self.additions:
            low += less
            high += more
        for less, more in self.maybe_additions:
            low += min(0, less)
            high += max(0, more)
        if not self.additions:
            for less, more in self.maybe_settings:
                low = min(low, less)
                high = max(high, more)
        return (low, high)


class Gathered:
    """The effects of a step that are gathered in a box."""

    def __init__(self):
        self.facts = {}
        self.numbers = {}

    def fact_change(self, index):
        if index not in self.facts:
            self.facts[index] = FactChange()
        return self.facts[index]

    def number_change(self, index):
        if index not in self.numbers:
            self.numbers[index] = NumberChange()
        return self.numbers[index]

    def gather(self, effects, box, certain):
        """Gathers ground effects; they are certain if all conditions around them are sure in the box."""
        for effect in effects:
            word = effect[0]
            if word == "when":
                verdict = judged_ground(effect[1], box)
                if verdict != "never":
                    self.gather(effect[2], box, certain and verdict == "sure")
            elif word == "set":
                self.number_change(effect[1]).gather_setting(form_span(effect[2], box[1]), certain)
            elif word == "add":
                self.number_change(effect[1]).gather_addition(form_span(effect[2], box[1]), certain)
            else:
                self.fact_change(effect[1]).gather(word == "make", certain)

    def contradicts(self):
        """Tells if certain effects contradict one another."""
        changes = list(self.facts.values()) + list(self.numbers.values())
        return any([change.clashes() for change in changes])

    def box_after(self, box, ranges):
        """Returns the box after the step, or None if a span is empty."""
        facts = list(box[0])
        for index, change in self.facts.items():
            facts[index] = change.entry_after(facts[index])
        spans = []
        for index, span in enumerate(box[1]):
            after = self.numbers[index].span_after(span) if index in self.numbers else span
            # A box may have values beyond the range, so this is done for the other numbers, too.
            low, high = common_span([after, ranges[index]])
            if low > high:
                return None
            spans.append((low, high))
        return (tuple(facts), tuple(spans))

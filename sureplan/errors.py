"""The errors of the program."""


class PlanError(ValueError):
    """The base class of all errors of the program."""


class BadTask(PlanError):
    """A part of a task has a problem."""

    def __init__(self, where, why):
        PlanError.__init__(self, f"{where}: {why}")
        self.where = where
        self.why = why


class BadValue(PlanError):
    """An argument has a wrong form."""

    def __init__(self, name):
        PlanError.__init__(self, f"wrong argument: {name}")
        self.name = name


class NotPossible(PlanError):
    """A step is not possible where it stands."""

    def __init__(self, position, reason):
        PlanError.__init__(self, f"not possible at position {position}: {reason}")
        self.position = position
        self.reason = reason


class TooManyStates(PlanError):
    """A call would visit more states than it may."""

    def __init__(self, limit):
        PlanError.__init__(self, f"more than {limit} states")
        self.limit = limit


class TooLarge(PlanError):
    """Something is larger than it may be."""

    def __init__(self, what):
        PlanError.__init__(self, f"too large: {what}")
        self.what = what


class TextError(PlanError):
    """A text has a problem at a place."""

    def __init__(self, line, column, words):
        PlanError.__init__(self, f"{line}:{column}: {words}")
        self.line = line
        self.column = column
        self.words = words

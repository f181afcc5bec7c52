"""Tasks and helpers that several test files use."""

import unittest

from sureplan.errors import BadTask
from sureplan.tasks import Task

TRUE = ("true",)
FALSE = ("false",)
ONE = ("int", 1)


def fact(name, *args):
    return ("fact", name, tuple(args))


def number(name, *args):
    return ("number", name, tuple(args))


def whole(n):
    return ("int", n)


def action(name="act", parameters=(), condition=TRUE, effects=(), cost=ONE, time=ONE, uses=()):
    return (name, parameters, condition, effects, cost, time, uses)


def problem(**parts):
    """Returns the place and the words of the problem of a task, or None if it has none."""
    try:
        Task(**parts)
    except BadTask as bad:
        return (bad.where, bad.why)
    return None


KINDS = (("Place", "Thing"), ("Truck", "Thing"), ("Van", "Truck"))
OBJECTS = (("home", "Place"), ("shop", "Place"), ("red", "Van"), ("old", "Truck"))


def world(**parts):
    """A task with places and trucks; single parts can be replaced."""
    all_parts = {
        "kinds": KINDS + (("Ghost", "Thing"),),
        "objects": OBJECTS,
        "facts": (("at", ("Truck", "Place")), ("open", ()), ("near", ("Place", "Place"))),
        "numbers": (("coins", (), 0, 9), ("fuel", ("Truck",), -2, 5)),
        "resources": (("crew", (), 3), ("dock", ("Place",), 2)),
        "actions": (drive_action(), action("wait", (), TRUE, (), whole(0))),
        "start": ((("at", ("red", "home")), ("open", ())), (("coins", (), 3), ("fuel", ("red",), 5))),
        "goal": fact("at", "red", "shop"),
    }
    all_parts.update(parts)
    return Task(**all_parts)


def drive_action():
    move = (("make", "at", ("?t", "?b")), ("unmake", "at", ("?t", "?a")), ("take", "fuel", ("?t",), ONE))
    return action("drive", (("?t", "Truck"), ("?a", "Place"), ("?b", "Place")), fact("at", "?t", "?a"), move,
                  whole(3), whole(2), (("dock", ("?b",), 1), ("crew", (), 2)))


def trip():
    """The example of the document: go from home to the shop for one coin."""
    effects = (("unmake", "home", ()), ("make", "shop", ()), ("take", "coins", (), ONE))
    go = ("go", (), fact("home"), effects, whole(2), ONE, ())
    return Task(facts=(("home", ()), ("shop", ())), numbers=(("coins", (), 0, 9),), actions=(go,),
                start=((("home", ()),), (("coins", (), 3),)), goal=fact("shop"))


class FailingCase(unittest.TestCase):
    """Tests of the errors of several functions that check the same arguments in the same way."""

    functions = ()

    def fails(self, error, *args):
        """Returns the errors that the functions raise, all of them of this class."""
        found = []
        for function in type(self).functions:
            with self.assertRaises(error) as caught:
                function(*args)
            found.append(caught.exception)
        return found

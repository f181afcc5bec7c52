"""Reads the commands of a task (points 117, 120 and 121)."""

from sureplan.errors import BadTask, TextError
from sureplan.formparts import (place_of, read_behind, read_call, read_first, read_integer, read_list, read_variables,
                                read_word, read_words, refuse)
from sureplan.items import read_item
from sureplan.nodereading import read_node
from sureplan.tasks import Task

PIECES = ("if", "then", "cost", "time", "use")
ITEMS = ("condition", "effects", "cost", "time", "uses")
FORMS_BEHIND = {"fact": 2, "number": 4, "resource": 3}


class Pieces:
    """The pieces of an action: its items behind the parameters, and the place of each of them."""

    def __init__(self, command):
        self.given = [("true",), (), ("int", 1), ("int", 1), ()]
        self.places = [place_of(command) for _ in ITEMS]
        self.last = -1

    def take(self, form):
        """Reads the next piece."""
        read_list(form)
        word = read_first(form)
        if word not in PIECES:
            refuse(form[1][0], "unknown piece")
        rank = PIECES.index(word)
        if rank < self.last or rank == self.last and word != "use":
            refuse(form[1][0], "not in its place")
        if rank > self.last:
            self.places[rank] = place_of(form)
        self.last = rank
        self.given[rank] = self.read_piece(word, form)

    def read_piece(self, word, form):
        """Returns the item for which a piece stands."""
        if word == "then":
            return tuple([read_node("effect", part) for part in read_behind(form, 0, None)])
        if word == "use":
            resource, amount = read_behind(form, 2, 2)
            return self.given[-1] + (read_call(resource) + (read_integer(amount),),)
        return read_node("formula" if word == "if" else "amount", read_behind(form, 1, 1)[0])


class Commands:
    """The parts of a task, as far as their commands have been read, and the places of what they say."""

    def __init__(self):
        self.entries = {"kinds": [], "objects": [], "facts": [], "numbers": [], "resources": [], "actions": []}
        self.start = ([], [])
        self.goal = ("true",)
        self.given = {}
        self.places = {}

    def take(self, command):
        """Reads the next command."""
        word = read_first(command)
        if word == "start" or word == "goal":
            self.take_single(word, command)
        elif word + "s" in self.entries:
            part = word + "s"
            entry = self.read_entry(word, command)
            self.places[(part,)] = place_of(command)
            self.places[(part, len(self.entries[part]))] = place_of(command)
            self.entries[part].append(entry)
        else:
            refuse(command[1][0], "unknown command")

    def take_single(self, word, command):
        """Reads a command that is given at most once."""
        if word in self.given:
            refuse(command, "already given")
        self.given[word] = True
        if word == "start":
            for form in read_behind(command, 0, None):
                self.take_item(form)
        else:
            form = read_behind(command, 1, 1)[0]
            self.goal = read_node("formula", form)
            self.places[("goal",)] = place_of(form)

    def take_item(self, form):
        """Reads an item of the start."""
        word, name, args, given = read_item(form, False)
        side = 0 if word == "fact" else 1
        self.places[("start", side, len(self.start[side]))] = place_of(form)
        self.start[side].append((name, args) if word == "fact" else (name, args, given))

    def read_entry(self, word, command):
        """Returns the entry for which a command of one of the first six parts stands."""
        if word == "kind":
            return (read_words(read_behind(command, 1, 2)) + ("Thing",))[:2]
        if word == "object":
            return read_words(read_behind(command, 2, 2))
        if word == "action":
            return self.read_action(command)
        forms = read_behind(command, FORMS_BEHIND[word], FORMS_BEHIND[word])
        entry = (read_word(forms[0]), read_words(read_list(forms[1])))
        return entry + tuple([read_integer(form) for form in forms[2:]])

    def read_action(self, command):
        forms = read_behind(command, 2, None)
        name = read_word(forms[0])
        parameters = read_variables(forms[1])
        pieces = Pieces(command)
        for form in forms[2:]:
            pieces.take(form)
        where = ("actions", len(self.entries["actions"]))
        self.places[where + ("parameters",)] = place_of(forms[1])
        for item, place in zip(ITEMS, pieces.places):
            self.places[where + (item,)] = place
        return (name, parameters) + tuple(pieces.given)

    def made_task(self):
        """Returns the task that is made from the parts; its problem is reported at its place."""
        parts = {part: tuple(self.entries[part]) for part in self.entries}
        try:
            return Task(kinds=parts["kinds"], objects=parts["objects"], facts=parts["facts"], numbers=parts["numbers"],
                        resources=parts["resources"], actions=parts["actions"],
                        start=(tuple(self.start[0]), tuple(self.start[1])), goal=self.goal)
        except BadTask as bad:
            line, column = self.places[bad.where]
            raise TextError(line, column, bad.why)

"""A second, direct reading of the chapter on texts. Problems are told by the index of their token, not by their place."""

import re

from sureplan.errors import BadTask
from sureplan.tasks import Task


class Problem(Exception):
    """A problem at the token with an index; the end of the text has the index behind the last token."""


class Form:
    """A word, or a list of forms with the indexes of its parentheses."""

    def __init__(self, at, word=None):
        self.at = at
        self.word = word
        self.forms = []
        self.end = None


def tokens_of(text):
    return re.findall(r"[()]|[A-Za-z0-9_?\-+*<>=]+", re.sub(r";.*", "", text))


def parse(tokens, commands):
    outer, stack = [], []
    for at, token in enumerate(tokens):
        level = stack[-1].forms if stack else outer
        if token == "(":
            if len(stack) == 40:
                raise Problem(at, "nested too deep")
            stack.append(Form(at))
            level.append(stack[-1])
        elif token == ")":
            if not stack:
                raise Problem(at, "nothing to close")
            stack.pop().end = at
        elif commands and not stack:
            raise Problem(at, "a command begins with (")
        else:
            level.append(Form(at, token))
    if stack:
        raise Problem(stack[-1].at, "not closed")
    if commands:
        return outer
    if len(outer) != 1:
        raise Problem(*((outer[1].at, "too many forms") if outer else (len(tokens), "a form is expected")))
    return outer[0]


def token(form):
    if form.word is None:
        raise Problem(form.at, "a token is expected")
    return form.word


def items(form):
    if form.word is not None:
        raise Problem(form.at, "a list is expected")
    return form.forms


def head(form):
    if not form.forms:
        raise Problem(form.end, "a word is expected")
    if form.forms[0].word is None:
        raise Problem(form.forms[0].at, "a word is expected")
    return form.forms[0].word


def counted(form, forms, least, most=None):
    if len(forms) < least:
        raise Problem(form.end, "too few")
    if most is not None and len(forms) > most:
        raise Problem(forms[most].at, "too many")
    return forms


def rest(form, least, most=None):
    return counted(form, form.forms[1:], least, most)


def integer(form):
    if form.word is None or not re.fullmatch(r"0|-?[1-9][0-9]{0,99}", form.word):
        raise Problem(form.at, "an integer is expected")
    return int(form.word)


def call(form):
    if form.word is not None:
        return (form.word, ())
    return (head(form), tuple(token(other) for other in form.forms[1:]))


def variables(form):
    return tuple(tuple(token(word) for word in counted(pair, items(pair), 2, 2)) for pair in items(form))


def formula(form):
    if form.word is not None:
        return (form.word,) if form.word in ("true", "false") else ("fact", form.word, ())
    word = head(form)
    if word == "not":
        return ("not", formula(rest(form, 1, 1)[0]))
    if word in ("and", "or"):
        return (word, tuple(formula(part) for part in rest(form, 0)))
    if word == "implies":
        return ("implies",) + tuple(formula(part) for part in rest(form, 2, 2))
    if word in ("all", "some"):
        first, second = rest(form, 2, 2)
        return (word, variables(first), formula(second))
    if word == "same":
        return ("same",) + tuple(token(part) for part in rest(form, 2, 2))
    signs = {"<=": "le", "<": "lt", ">=": "ge", ">": "gt", "=": "eq"}
    if word in signs:
        return (signs[word],) + tuple(amount(part) for part in rest(form, 2, 2))
    return ("fact",) + call(form)


def amount(form):
    if form.word is not None:
        return ("int", integer(form)) if re.match("[-0-9]", form.word) else ("number", form.word, ())
    word = head(form)
    if word == "+":
        return ("plus", tuple(amount(part) for part in rest(form, 0)))
    if word == "-":
        return ("minus",) + tuple(amount(part) for part in rest(form, 2, 2))
    if word == "*":
        first, second = rest(form, 2, 2)
        return ("times", integer(first), amount(second))
    return ("number",) + call(form)


def effect(form):
    if form.word is not None:
        raise Problem(form.at, "an effect is expected")
    word = head(form)
    if word in ("make", "unmake"):
        return (word,) + call(rest(form, 1, 1)[0])
    if word in ("set", "add", "take"):
        first, second = rest(form, 2, 2)
        return (word,) + call(first) + (amount(second),)
    if word in ("when", "each"):
        first, *others = rest(form, 1)
        return (word, formula(first) if word == "when" else variables(first), tuple(effect(part) for part in others))
    raise Problem(form.forms[0].at, "an effect is expected")


def item(form, negated):
    """A fact with its answer, or a number with its value, of a start, a state or what was seen."""
    if form.word is None:
        word = head(form)
        if word == "=":
            first, second = rest(form, 2, 2)
            return ("number",) + call(first) + (integer(second),)
        if word == "not" and negated:
            return ("fact",) + call(rest(form, 1, 1)[0]) + (False,)
    return ("fact",) + call(form) + (True,)


def action(command, where, places):
    first, second, *pieces = rest(command, 2)
    name, pairs = token(first), variables(second)
    found = {"if": ("true",), "then": (), "cost": ("int", 1), "time": ("int", 1), "use": ()}
    order = list(found)
    seen = []
    places[where + ("parameters",)] = second.at
    for word, other in zip(order, ("condition", "effects", "cost", "time", "uses")):
        places[where + (other,)] = command.at
    for piece in pieces:
        items(piece)
        word = head(piece)
        if word not in order:
            raise Problem(piece.forms[0].at, "unknown piece")
        if any(order.index(other) > order.index(word) or other == word != "use" for other in seen):
            raise Problem(piece.forms[0].at, "not in its place")
        if word not in seen:
            places[where + (("condition", "effects", "cost", "time", "uses")[order.index(word)],)] = piece.at
        seen.append(word)
        if word == "then":
            found[word] = tuple(effect(part) for part in rest(piece, 0))
        elif word == "use":
            first, second = rest(piece, 2, 2)
            found[word] += (call(first) + (integer(second),),)
        else:
            found[word] = (formula if word == "if" else amount)(rest(piece, 1, 1)[0])
    return (name, pairs) + tuple(found.values())


def task(tokens):
    parts = {word: [] for word in ("kind", "object", "fact", "number", "resource", "action")}
    start, goal, places, given = ([], []), ("true",), {}, set()
    for command in parse(tokens, True):
        word = head(command)
        if word not in parts and word not in ("start", "goal"):
            raise Problem(command.forms[0].at, "unknown command")
        if word in given:
            raise Problem(command.at, "already given")
        where = (word + "s", len(parts.get(word, ())))
        if word == "start":
            given.add(word)
            for form in rest(command, 0):
                kind, name, args, value = item(form, False)
                side = start[kind == "number"]
                places[("start", int(kind == "number"), len(side))] = form.at
                side.append((name, args) if kind == "fact" else (name, args, value))
        elif word == "goal":
            given.add(word)
            goal = formula(rest(command, 1, 1)[0])
            places[("goal",)] = command.forms[1].at
        elif word == "action":
            parts[word].append(action(command, where, places))
        elif word == "kind":
            parts[word].append((tuple(token(form) for form in rest(command, 1, 2)) + ("Thing",))[:2])
        elif word == "object":
            parts[word].append(tuple(token(form) for form in rest(command, 2, 2)))
        else:
            many = {"fact": 2, "number": 4, "resource": 3}[word]
            first, second, *others = rest(command, many, many)
            entry = (token(first), tuple(token(form) for form in items(second)))
            parts[word].append(entry + tuple(integer(form) for form in others))
        places[where] = places[where[:1]] = command.at if word not in ("start", "goal") else places.get(where[:1])
    return made(parts, start, goal, places)


def made(parts, start, goal, places):
    try:
        return Task(**{word + "s": tuple(entries) for word, entries in parts.items()}, start=tuple(map(tuple, start)),
                    goal=goal)
    except BadTask as bad:
        raise Problem(places[bad.where], bad.why) from None


def checked(problem, form):
    """Raises the problem of a value at its form, if there is one."""
    if problem is not None:
        raise Problem(form.at, problem)


def name_problem(task, table, name, args):
    """The problem of a name and its arguments, which are objects; the table has the kinds of each name."""
    if name not in table:
        return "unknown"
    if len(args) != len(table[name]):
        return "count"
    for arg, kind in zip(args, table[name]):
        if arg not in task.objects_of("Thing"):
            return "unknown"
        if arg not in task.objects_of(kind):
            return "kind"
    return None


def single(task, tokens, read):
    form = parse(tokens, False)
    found = read(form)
    part = {"goal": found} if read is formula else {"goal": ("le", found, ("int", 0))}
    if read is amount:
        # The amount stands in the cost of an action, so that it has the same problems as by itself.
        part = {"actions": task.actions[:11] + (("zzz", (), ("true",), (), found, ("int", 1), ()),)}
    try:
        Task(**{**{name: getattr(task, name) for name in ("kinds", "objects", "facts", "numbers", "resources", "actions")},
                **part})
    except BadTask as bad:
        raise Problem(form.at, bad.why) from None
    return found


def entries(task, tokens, word):
    form = parse(tokens, False)
    items(form)
    if head(form) != word:
        raise Problem(form.forms[0].at, word + " is expected")
    found, named = [], set()
    read = [(part, item(part, word == "seen")) for part in rest(form, 0)]
    tables = {"fact": dict(task.facts), "number": {entry[0]: entry[1] for entry in task.numbers}}
    for part, (kind, name, args, value) in read:
        checked(name_problem(task, tables[kind], name, args), part)
        checked("duplicate" if (kind, name, args) in named else None, part)
        named.add((kind, name, args))
        index = task.fact_index(name, args) if kind == "fact" else task.number_index(name, args)
        if kind == "number":
            _, _, low, high = task.all_numbers()[index]
            checked(None if low <= value <= high else "range", part)
        found.append((kind, index, value))
    return tuple(found)


def state(task, tokens):
    sides = {"fact": {}, "number": {}}
    for kind, index, value in entries(task, tokens, "state"):
        sides[kind][index] = value
    return (tuple(sides["fact"].get(index, False) for index in range(len(task.all_facts()))),
            tuple(sides["number"].get(index, low) for index, (_, _, low, _) in enumerate(task.all_numbers())))


def step(task, form):
    items(form)
    name, args = call(form)
    table = {entry[0]: [kind for _, kind in entry[1]] for entry in task.actions}
    checked(name_problem(task, table, name, args), form)
    return task.all_steps().index((name, args))


def lines(tokens):
    return [(head(form),) + tuple(None if part.word == "none" else integer(part) for part in form.forms[1:])
            for form in parse(tokens, True)]

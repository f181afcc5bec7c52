"""Points 126 to 128 on drawn values, and drawn texts against a second reading."""

import random
import unittest

import textoracle
from randoms import Draw, Lively
from samples import world
from sureplan.certificates import certificate
from sureplan.errors import TextError, TooManyStates
from sureplan.reading import (read_amount, read_formula, read_lines, read_seen, read_state, read_step, read_steps,
                              read_task)
from sureplan.scanning import end_of, scan
from sureplan.tasks import Task
from sureplan.writing import (amount_text, formula_text, lines_text, seen_text, state_text, step_text, steps_text,
                              task_text)
from test_reading_task import WORLD, parts_of
from test_schedules import Timed

WORDS = ("no such character", "nothing to close", "a command begins with (", "not closed", "a form is expected",
         "too many forms", "a word is expected", "unknown command", "unknown piece", "an effect is expected", "already given",
         "not in its place", "too few", "too many", "a token is expected", "a list is expected", "an integer is expected",
         "state is expected", "seen is expected", "name", "duplicate", "kind", "count", "unknown", "range")
POOL = ("(", ")", "( )", "and", "not", "or", "all", "some", "same", "true", "<=", "=", "+", "-", "*", "make", "set", "when",
        "each", "if", "then", "cost", "time", "use", "goal", "start", "state", "seen", "kind", "object", "fact", "number",
        "resource", "action", "0", "-1", "01", "7", "1000001", "none", "?x", "?p0", "Thing", "Sort", "a", "b", "f", "n", "m")


def drawn_task(source):
    if source.random() < 0.3:
        return world()
    draw = Draw(source) if source.random() < 0.6 else Lively(source, source.randint(1, 4), source.randint(0, 3))
    if source.random() < 0.5:
        draw = Timed(source, draw)
    return draw.task(source.randint(0, 3))


def drawn_formula(source, task):
    if task.is_formula(("fact", "g", ())):
        return Draw(source).formula(["a", "b"], 3)
    return task.goal


def drawn_amount(source, task):
    if task.is_formula(("fact", "g", ())):
        return Draw(source).amount(["a", "b"], 3)
    numbers = [("number",) + number[:2] for number in task.all_numbers()] + [("int", 5)]
    return source.choice((("plus", tuple(numbers)), ("minus", numbers[0], numbers[-1]), ("times", -2, numbers[0]), numbers[0]))


def drawn_seen(source, task):
    holding, values = Draw(source).state(task)
    entries = [("fact", index, answer) for index, answer in enumerate(holding)]
    entries += [("number", index, value) for index, value in enumerate(values)]
    source.shuffle(entries)
    return tuple(entries[:source.randint(0, len(entries))])


def drawn_steps(source, task):
    many = len(task.all_steps())
    return [source.randrange(many) for _ in range(source.randint(0, 6))] if many else []


def drawn_lines(source, task):
    if source.random() < 0.3:
        return [("line", source.choice((None, -10 ** 99, 10 ** 99, 0))) + (1,) * source.randint(0, 3)]
    try:
        return certificate(task)[:12]
    except TooManyStates:
        return []


def kept(value):
    """The value, or the parts of a task."""
    return parts_of(value) if isinstance(value, Task) else value


class RoundTripTest(unittest.TestCase):
    """Point 127."""

    def same(self, value, write, read, seed):
        text = write(value)
        again = read(text)
        self.assertEqual(kept(again), kept(value), seed)
        self.assertEqual(write(again), text, seed)
        self.assertNotIn("  ", text)
        self.assertNotIn("\t", text)
        self.assertNotIn("( ", text)
        self.assertNotIn(" )", text)

    def test_drawn_values(self):
        for seed in range(250):
            source = random.Random(seed)
            task = drawn_task(source)
            self.same(task, task_text, read_task, seed)
            self.same(drawn_formula(source, task), lambda value: formula_text(task, value),
                      lambda text: read_formula(task, text), seed)
            self.same(drawn_amount(source, task), lambda value: amount_text(task, value),
                      lambda text: read_amount(task, text), seed)
            self.same(Draw(source).state(task), lambda value: state_text(task, value), lambda text: read_state(task, text), seed)
            self.same(drawn_seen(source, task), lambda value: seen_text(task, value), lambda text: read_seen(task, text), seed)
            self.same(drawn_steps(source, task), lambda value: steps_text(task, value), lambda text: read_steps(task, text), seed)
            self.same(drawn_lines(source, task), lines_text, read_lines, seed)
            for step in drawn_steps(source, task):
                self.same(step, lambda value: step_text(task, value), lambda text: read_step(task, text), seed)

    def test_texts_that_were_written_otherwise(self):
        task = read_task(WORLD)
        text = task_text(task)
        self.assertNotEqual(text, WORLD)
        self.assertEqual(task_text(read_task(text)), text)
        task = read_task("(fact f ()) (number n () 0 9) (object o Thing) (fact g (Thing)) (start (= (n) 3) (f)) (goal (f))")
        self.assertEqual(task_text(task), "(object o Thing)\n(fact f ())\n(fact g (Thing))\n(number n () 0 9)\n"
                                          "(start f (= n 3))\n(goal f)\n")
        self.assertEqual(task_text(read_task(task_text(task))), task_text(task))
        self.assertEqual(state_text(task, read_state(task, "(state (= n 2) (g o) (f))")), "(state f (g o) (= n 2))")
        self.assertEqual(state_text(task, read_state(task, "(state)")), "(state (= n 0))")

    def test_the_largest_nodes(self):
        task = world()
        formula = ("fact", "open", ())
        for _ in range(11):
            formula = ("all", ((f"?v{len(str(formula))}", "Ghost"),), formula)
        self.assertTrue(task.is_formula(formula))
        self.assertEqual(read_formula(task, formula_text(task, formula)), formula)


class DrawnTexts:
    """Draws texts of every kind and changes them."""

    def __init__(self, source):
        self.source = source
        self.task = drawn_task(source)

    def cases(self):
        """For each kind of text: its name, a drawn text, and the function that reads it."""
        task, source = self.task, self.source
        found = [("task", task_text(task), read_task),
                 ("formula", formula_text(task, drawn_formula(source, task)), lambda text: read_formula(task, text)),
                 ("amount", amount_text(task, drawn_amount(source, task)), lambda text: read_amount(task, text)),
                 ("state", state_text(task, Draw(source).state(task)), lambda text: read_state(task, text)),
                 ("seen", seen_text(task, drawn_seen(source, task)), lambda text: read_seen(task, text)),
                 ("steps", steps_text(task, drawn_steps(source, task)), lambda text: read_steps(task, text)),
                 ("lines", lines_text(drawn_lines(source, task)), read_lines)]
        steps = drawn_steps(source, task)
        if steps:
            found.append(("step", step_text(task, steps[0]), lambda text: read_step(task, text)))
        return found

    def changed(self, tokens):
        """Some other tokens: a few of them are left out, doubled, exchanged, replaced or put into parentheses."""
        tokens = list(tokens)
        for _ in range(self.source.choice((0, 1, 1, 1, 2, 3))):
            if not tokens:
                return [self.source.choice(POOL)]
            at = self.source.randrange(len(tokens))
            words = [place for place, token in enumerate(tokens) if token not in "()"]
            if words and self.source.random() < 0.7:
                at = self.source.choice(words)
            how = self.source.randint(0, 6)
            other = self.source.choice(POOL if self.source.random() < 0.5 else tokens)
            if how == 0:
                del tokens[at]
            elif how == 1:
                tokens.insert(at, tokens[at])
            elif how == 2:
                tokens[at - 1], tokens[at] = tokens[at], tokens[at - 1]
            elif how == 3:
                tokens[at:at + 1] = ["(", tokens[at], ")"]
            elif how == 4 and "(" in tokens:
                self.repeat_list(tokens)
            else:
                tokens[at] = other
        return " ".join(tokens).split()

    def repeat_list(self, tokens):
        """Puts a whole list at another place, too, or leaves it out."""
        begin = self.source.choice([place for place, token in enumerate(tokens) if token == "("])
        depth, end = 0, begin
        for end in range(begin, len(tokens)):
            depth += {"(": 1, ")": -1}.get(tokens[end], 0)
            if depth == 0:
                break
        part = tokens[begin:end + 1]
        if self.source.random() < 0.4:
            del tokens[begin:end + 1]
        else:
            at = self.source.choice((end + 1, begin, self.source.randint(0, len(tokens))))
            tokens[at:at] = part

    def spread(self, tokens):
        """A text of the tokens with drawn blanks and comments between them, before the first and behind the last one."""
        gaps = ("", " ", "  ", "\n", "\t", " ; note (\n", ";\n", "\n;#!\n\t", " ;; )a\n ")
        text = self.source.choice(gaps)
        for token, behind in zip(tokens, tokens[1:] + [")"]):
            gap = self.source.choice(gaps)
            if not gap and token not in "()" and behind not in "()":
                gap = " "
            text += token + gap
        return text + self.source.choice(gaps + ("; the end", ";"))


def outcome(read, text):
    """What was read, or the index of the token at which the problem is, and the words."""
    try:
        return ("value", kept(read(text)))
    except TextError as error:
        places = [token[1:] for token in scan(text)] + [end_of(text)]
        return ("problem", places.index((error.line, error.column)), error.words)


class BlanksTest(unittest.TestCase):
    """Point 128."""

    def test_drawn_blanks(self):
        found = {"value": 0, "problem": 0}
        for seed in range(120):
            draw = DrawnTexts(random.Random(seed))
            for name, text, read in draw.cases():
                tokens = draw.changed([token[0] for token in scan(text)])
                plain = outcome(read, " ".join(tokens))
                found[plain[0]] += 1
                for _ in range(2):
                    self.assertEqual(outcome(read, draw.spread(tokens)), plain, (seed, name, tokens))
        self.assertGreater(min(found.values()), 200)


class SecondReadingTest(unittest.TestCase):
    def expected(self, task, name, text):
        tokens = textoracle.tokens_of(text)
        readers = {"task": lambda: textoracle.task(tokens),
                   "formula": lambda: textoracle.single(task, tokens, textoracle.formula),
                   "amount": lambda: textoracle.single(task, tokens, textoracle.amount),
                   "state": lambda: textoracle.state(task, tokens), "seen": lambda: textoracle.entries(task, tokens, "seen"),
                   "step": lambda: textoracle.step(task, textoracle.parse(tokens, False)),
                   "steps": lambda: [textoracle.step(task, form) for form in textoracle.parse(tokens, True)],
                   "lines": lambda: textoracle.lines(tokens)}
        try:
            return ("value", kept(readers[name]()))
        except textoracle.Problem as problem:
            return ("problem",) + problem.args

    def test_drawn_changes_of_tokens(self):
        words = {}
        for seed in range(500):
            draw = DrawnTexts(random.Random(seed))
            for name, text, read in draw.cases():
                for _ in range(5 if name == "task" else 3):
                    changed = draw.spread(draw.changed([token[0] for token in scan(text)]))
                    found = outcome(read, changed)
                    self.assertEqual(found, self.expected(draw.task, name, changed), (seed, name, changed))
                    words[found[-1] if found[0] == "problem" else "read"] = True
        self.assertEqual([word for word in WORDS[1:] if word not in words], [])


class OtherErrorsTest(unittest.TestCase):
    def test_no_other_error_is_raised(self):
        """Drawn characters give a value or a TextError, whatever they are."""
        letters = "()()() \n;ab?-01=<*+#makegolstr"
        for seed in range(300):
            source = random.Random(seed)
            draw = DrawnTexts(source)
            for _, text, read in draw.cases():
                cut = list(text)
                for _ in range(source.randint(1, 4)):
                    cut.insert(source.randint(0, len(cut)), source.choice(letters))
                    del cut[source.randrange(len(cut))]
                for plain in ("".join(cut), "".join(source.choice(letters) for _ in range(source.randint(0, 30)))):
                    try:
                        read(plain)
                    except TextError as error:
                        lines = plain.split("\n")
                        self.assertLessEqual(error.line, len(lines))
                        self.assertLessEqual(error.column, len(lines[error.line - 1]) + 1)


if __name__ == "__main__":
    unittest.main()

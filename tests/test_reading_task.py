"""Points 117 to 121, and read_task of sureplan/reading.py."""

import unittest

from marked import TextCase
from samples import KINDS, OBJECTS, ONE, TRUE, action, drive_action, fact, number, whole, world
from sureplan.errors import BadValue
from sureplan.reading import read_task
from sureplan.tasks import Task

WORLD = """(kind Place) (kind Truck Thing) (kind Van Truck) (kind Ghost)
(object home Place) (object shop Place) (object red Van) (object old Truck)
(fact at (Truck Place)) (fact open ()) (fact near (Place Place))
(number coins () 0 9) (number fuel (Truck) -2 5)
(resource crew () 3) (resource dock (Place) 2)
(action drive ((?t Truck) (?a Place) (?b Place))
  (if (at ?t ?a)) (then (make (at ?t ?b)) (unmake (at ?t ?a)) (take (fuel ?t) 1))
  (cost 3) (time 2) (use (dock ?b) 1) (use crew 2))
(action wait () (cost 0))
(start (at red home) open (= coins 3) (= (fuel red) 5))
(goal (at red shop))
"""
PARTS = ("kinds", "objects", "facts", "numbers", "resources", "actions", "start", "goal")


def parts_of(task):
    return {part: getattr(task, part) for part in PARTS}


def first_action(pieces):
    """The only action of a task, with some pieces, in a world that has a few facts and numbers."""
    task = read_task(f"(kind K) (object o K) (fact f (K)) (fact g ()) (number n (K) 0 9) (number m () 0 9)"
                     f"(resource r (K) 5) (resource s () 5) (action act ((?x K)) {pieces})")
    return task.actions[0]


class CommandsTest(unittest.TestCase):
    """Point 117."""

    def test_every_command(self):
        task = read_task(WORLD)
        self.assertIsInstance(task, Task)
        self.assertEqual(parts_of(task), parts_of(world()))
        self.assertEqual(task.kinds, KINDS + (("Ghost", "Thing"),))
        self.assertEqual(task.objects, OBJECTS)
        self.assertEqual(task.actions[0], drive_action())

    def test_the_example_of_the_interface(self):
        task = read_task("(kind Place) (object home Place) (object shop Place)\n(fact at (Place)) (number coins () 0 9) ; the "
                         "purse\n(action go ((?b Place)) (then (make (at ?b)) (take coins 1)) (cost 2))\n(start (at home) "
                         "(= coins 3)) (goal (and (at shop) (>= coins 2)))")
        self.assertEqual(task.goal, ("and", (("fact", "at", ("shop",)), ("ge", ("number", "coins", ()), ("int", 2)))))
        self.assertEqual(task.start_state(), ((True, False), (3,)))

    def test_no_commands(self):
        for text in ("", " \n ; nothing\n"):
            self.assertEqual(parts_of(read_task(text)), parts_of(Task()))
        self.assertEqual(parts_of(read_task("(start)")), parts_of(Task()))

    def test_commands_in_any_order(self):
        lines = [line for line in WORLD.replace("\n  ", " ").split("\n") if line]
        commands = [command for line in lines for command in self.split(line)]
        grouped = sorted(commands, key=lambda command: command.split()[0], reverse=True)
        self.assertNotEqual(grouped, commands)
        self.assertEqual(parts_of(read_task("\n".join(grouped))), parts_of(world()))
        # The entries of each part are in the order of their commands.
        task = read_task("(goal b) (fact b ()) (object o Thing) (fact a ()) (start a) (kind B) (kind A)")
        self.assertEqual((task.facts, task.kinds), ((("b", ()), ("a", ())), (("B", "Thing"), ("A", "Thing"))))

    def split(self, line):
        """The commands of a line."""
        found, depth, begin = [], 0, 0
        for at, letter in enumerate(line):
            depth += {"(": 1, ")": -1}.get(letter, 0)
            if letter == ")" and depth == 0:
                found.append(line[begin:at + 1])
                begin = at + 1
        return found

    def test_pieces_that_are_left_out(self):
        self.assertEqual(first_action(""), action("act", (("?x", "K"),), TRUE, (), ONE, ONE, ()))
        self.assertEqual(first_action("(if g)")[2:], (fact("g"), (), ONE, ONE, ()))
        self.assertEqual(first_action("(then (make g))")[2:], (TRUE, (("make", "g", ()),), ONE, ONE, ()))
        self.assertEqual(first_action("(then)")[2:], (TRUE, (), ONE, ONE, ()))
        self.assertEqual(first_action("(cost 7)")[2:], (TRUE, (), whole(7), ONE, ()))
        self.assertEqual(first_action("(time 7)")[2:], (TRUE, (), ONE, whole(7), ()))
        self.assertEqual(first_action("(use s 2)")[2:], (TRUE, (), ONE, ONE, (("s", (), 2),)))
        self.assertEqual(first_action("(if g) (time 2) (use s 1)")[2:], (fact("g"), (), ONE, whole(2), (("s", (), 1),)))
        self.assertEqual(first_action("(use s 1) (use (r ?x) 2) (use (s) 3) (use s 1)")[6],
                         (("s", (), 1), ("r", ("?x",), 2), ("s", (), 3), ("s", (), 1)))

    def test_items_of_a_start(self):
        task = read_task("(kind K) (object o K) (fact f (K)) (fact g ()) (number n (K) -9 9) (number m () 0 9)"
                         "(start (= m 4) (f o) (= (n o) -3) (g))")
        self.assertEqual(task.start, ((("f", ("o",)), ("g", ())), (("m", (), 4), ("n", ("o",), -3))))
        task = read_task("(fact g ()) (number m () 0 9) (start (= (m) 4) g)")
        self.assertEqual(task.start, ((("g", ()),), (("m", (), 4),)))

    def test_an_action_without_parameters(self):
        self.assertEqual(read_task("(action act ())").actions, (action(),))


class NodesTest(unittest.TestCase):
    """Points 118 and 119, in the pieces of an action."""

    def test_formulas(self):
        for text, expected in (
                ("true", TRUE), ("false", ("false",)), ("g", fact("g")), ("(g)", fact("g")), ("(f ?x)", fact("f", "?x")),
                ("(f o)", fact("f", "o")), ("(not g)", ("not", fact("g"))), ("(and)", ("and", ())), ("(or)", ("or", ())),
                ("(and g true (f o))", ("and", (fact("g"), TRUE, fact("f", "o")))), ("(or g)", ("or", (fact("g"),))),
                ("(implies g (f o))", ("implies", fact("g"), fact("f", "o"))),
                ("(all ((?y K)) (f ?y))", ("all", (("?y", "K"),), fact("f", "?y"))),
                ("(some ((?y K) (?z Thing)) (same ?y ?z))", ("some", (("?y", "K"), ("?z", "Thing")), ("same", "?y", "?z"))),
                ("(same o ?x)", ("same", "o", "?x")), ("(<= m 1)", ("le", number("m"), ONE)),
                ("(< 1 (m))", ("lt", ONE, number("m"))), ("(>= (n o) (n ?x))", ("ge", number("n", "o"), number("n", "?x"))),
                ("(> 0 -1)", ("gt", whole(0), whole(-1))), ("(= m m)", ("eq", number("m"), number("m")))):
            self.assertEqual(first_action(f"(if {text})")[2], expected, text)

    def test_amounts(self):
        for text, expected in (
                ("0", whole(0)), ("-12", whole(-12)), ("1000000", whole(1000000)), ("m", number("m")), ("(m)", number("m")),
                ("(n o)", number("n", "o")), ("(+)", ("plus", ())), ("(+ 1 m (+ 1))", ("plus", (ONE, number("m"), ("plus", (ONE,))))),
                ("(- m 1)", ("minus", number("m"), ONE)), ("(- 1 -1)", ("minus", ONE, whole(-1))),
                ("(* 3 m)", ("times", 3, number("m"))), ("(* -3 (- m m))", ("times", -3, ("minus", number("m"), number("m"))))):
            self.assertEqual(first_action(f"(cost {text})")[4], expected, text)
            self.assertEqual(first_action(f"(time {text})")[5], expected, text)

    def test_effects(self):
        for text, expected in (
                ("(make g)", ("make", "g", ())), ("(make (g))", ("make", "g", ())), ("(make (f ?x))", ("make", "f", ("?x",))),
                ("(unmake g)", ("unmake", "g", ())), ("(set m 3)", ("set", "m", (), whole(3))),
                ("(add (n ?x) (+ m 1))", ("add", "n", ("?x",), ("plus", (number("m"), ONE)))),
                ("(take (m) -1)", ("take", "m", (), whole(-1))), ("(when g)", ("when", fact("g"), ())),
                ("(when (not g) (make g) (set m 1))", ("when", ("not", fact("g")), (("make", "g", ()), ("set", "m", (), ONE)))),
                ("(each ((?y K)))", ("each", (("?y", "K"),), ())),
                ("(each ((?y K) (?z K)) (make (f ?y)) (when (f ?z) (unmake g)))",
                 ("each", (("?y", "K"), ("?z", "K")), (("make", "f", ("?y",)), ("when", fact("f", "?z"), (("unmake", "g", ()),)))))):
            self.assertEqual(first_action(f"(then {text})")[3], (expected,), text)
        self.assertEqual(first_action("(then (make g) (unmake (f o)))")[3], (("make", "g", ()), ("unmake", "f", ("o",))))

    def test_names_that_are_words_of_nodes_elsewhere(self):
        # `le`, `plus` and `make` are no first words of formulas and amounts, and `use` or `goal` none at all.
        task = read_task("(fact le (Thing)) (fact make ()) (fact goal ()) (number plus (Thing) 0 1) (number fact () 0 1)"
                         "(object o Thing) (action and () (if (and (le o) (make) goal)) (cost (+ (plus o) fact)))"
                         "(goal (goal))")
        self.assertEqual(task.actions[0][2], ("and", (fact("le", "o"), fact("make"), fact("goal"))))
        self.assertEqual(task.actions[0][4], ("plus", (number("plus", "o"), number("fact"))))
        self.assertEqual(task.goal, fact("goal"))


class TextTest(TextCase):
    """Point 112 and the limits of a text."""

    def test_texts_that_are_no_strings(self):
        for text in (None, 0, b"(goal true)", ["(goal true)"], ("(goal true)",), True):
            with self.assertRaises(BadValue) as caught:
                read_task(text)
            self.assertEqual(caught.exception.name, "text")

    def test_200000_characters_and_200001(self):
        text = "(goal true)" + " " * (200000 - 11)
        self.assertEqual(read_task(text).goal, TRUE)
        for wrong in (text + " ", "#" * 200001, "(" * 200001):
            with self.assertRaises(BadValue) as caught:
                read_task(wrong)
            self.assertEqual(caught.exception.name, "text")
        self.fails(read_task, "^#" + "a" * 199999, "no such character")

    def test_problems_of_forms(self):
        self.fails(read_task, "(goal true) ^#", "no such character")
        self.fails(read_task, "^goal", "a command begins with (")
        self.fails(read_task, "(goal true)^)", "nothing to close")
        self.fails(read_task, "(unknown) ^(goal", "not closed")
        self.fails(read_task, "(unknown) " + "(" * 40 + "^(", "nested too deep")


class FormProblemsTest(TextCase):
    """Point 120."""

    def wrong(self, text, words):
        self.fails(read_task, text, words)
        # What stands before and behind it does not matter.
        self.fails(read_task, "(fact zz ())\n ; here\n " + text + " (unknown)", words)

    def test_a_word_is_expected(self):
        for text in ("(^)", "(^(goal))", "(^() goal true)", "(action a () (^))", "(action a () (^(if) true))", "(goal (^))",
                     "(goal (^(and)))", "(goal (not (^)))", "(goal (not (^(f) a)))", "(goal (<= (^) 1))",
                     "(goal (<= (^(+)) 1))", "(action a () (then (^)))", "(action a () (then (^(make f))))",
                     "(action a () (then (make (^))))", "(action a () (then (set (^(m)) 1)))", "(start (^))",
                     "(start (^(f)))", "(start (= (^) 1))", "(action a () (use (^) 1))", "(action a () (use (^(r)) 1))",
                     "(action a () (cost (^)))"):
            self.wrong(text, "a word is expected")

    def test_unknown_words(self):
        for text in ("(^kinds A)", "(^task)", "(^Kind A)", "(^if)", "(^state)", "(^seen)", "(^= a 1)", "(^starts)",
                     "(^unknown (()))", "(^goals)"):
            self.wrong(text, "unknown command")
        for text in ("(action a () (^when true))", "(action a () (^goal true))", "(action a () (if true) (^uses))",
                     "(action a () (^effects (())))", "(action a () (^If true))"):
            self.wrong(text, "unknown piece")
        for text in ("(action a () (then (^unknown f)))", "(action a () (then ^make))", "(action a () (then (^and)))",
                     "(action a () (then (make f) ^f))", "(action a () (then (^f)))", "(action a () (then (when true (^not f))))",
                     "(action a () (then (each () ^f)))", "(action a () (then (^= n 1)))", "(action a () (then (^true)))"):
            self.wrong(text, "an effect is expected")

    def test_already_given(self):
        for text in ("(start) ^(start)", "(goal true) ^(goal true)", "(goal true) (start)\n^(goal)", "(start) ^(start ())",
                     "(start a) (goal b) ^(start)", "(goal true) ^(goal a b c)"):
            self.fails(read_task, text, "already given")

    def test_not_in_its_place(self):
        pieces = ("(if true)", "(then)", "(cost 1)", "(time 1)", "(use r 1)")
        for late in range(5):
            for soon in range(late + (late < 4)):
                marked = pieces[soon].replace("(", "(^")
                self.wrong(f"(action a () {pieces[late]} {marked})", "not in its place")
        # A wrong order comes before the number of its forms, and behind the word itself.
        self.wrong("(action a () (time 1) (^if))", "not in its place")
        self.wrong("(action a () (cost 1) (^cost 1 2 3))", "not in its place")
        self.wrong("(action a () (time 1) (^unknown))", "unknown piece")
        self.wrong("(action a () (use r 1) (^time 1))", "not in its place")
        self.wrong("(action a () (if true) (cost 1) (time 1) (use r 1) (use r 1) (^then))", "not in its place")

    def test_too_few(self):
        for text in ("(kind^)", "(object^)", "(object a^)", "(fact^)", "(fact a^)", "(number^)", "(number n () 0^)",
                     "(resource r ()^)", "(action^)", "(action a^)", "(goal^)", "(action a () (if^))", "(action a () (cost^))",
                     "(action a () (time^))", "(action a () (use^))", "(action a () (use r^))", "(goal (not^))",
                     "(goal (implies^))", "(goal (implies a^))", "(goal (all^))", "(goal (some ((?x K))^))",
                     "(goal (same^))", "(goal (same a^))", "(goal (<=^))", "(goal (< 1^))", "(goal (>= 1^))", "(goal (> 1^))",
                     "(goal (= 1^))", "(goal (= (-^) 1))", "(goal (= (- 1^) 1))", "(goal (= (* 1^) 1))",
                     "(action a () (then (make^)))", "(action a () (then (unmake^)))", "(action a () (then (set^)))",
                     "(action a () (then (set n^)))", "(action a () (then (add n^)))", "(action a () (then (take n^)))",
                     "(action a () (then (when^)))", "(action a () (then (each^)))", "(start (=^))", "(start (= n^))",
                     "(action a ((^)))", "(action a ((?x^)))", "(goal (all ((?x^)) a))", "(goal (all ((^)) a))"):
            self.wrong(text, "too few")

    def test_too_many(self):
        for text in ("(kind A B ^C)", "(object a K ^b c)", "(fact a () ^())", "(number n () 0 1 ^2)", "(resource r () 1 ^2)",
                     "(goal a ^b)", "(goal a ^(b) c)", "(action a () (if a ^b))", "(action a () (cost 1 ^2))",
                     "(action a () (time 1 ^2))", "(action a () (use r 1 ^2))", "(goal (not a ^b))", "(goal (implies a b ^c))",
                     "(goal (all ((?x K)) a ^b))", "(goal (some ((?x K)) a ^b))", "(goal (same a b ^c))", "(goal (<= 1 2 ^3))",
                     "(goal (< 1 2 ^3))", "(goal (>= 1 2 ^3))", "(goal (> 1 2 ^3))", "(goal (= 1 2 ^3))",
                     "(goal (= (- 1 2 ^3) 1))", "(goal (= (* 1 2 ^3) 1))", "(action a () (then (make f ^g)))",
                     "(action a () (then (unmake f ^g)))", "(action a () (then (set n 1 ^2)))",
                     "(action a () (then (add n 1 ^2)))", "(action a () (then (take n 1 ^2)))", "(start (= n 1 ^2))",
                     "(action a ((?x K ^K)))", "(goal (all ((?x K ^() K)) a))"):
            self.wrong(text, "too many")

    def test_the_forms_are_counted_before_they_are_read(self):
        self.wrong("(object (a)^)", "too few")
        self.wrong("(object (a) (b) ^c)", "too many")
        self.wrong("(goal (not () ^b))", "too many")
        self.wrong("(goal (<= () () ^1))", "too many")
        self.wrong("(number () () 0^)", "too few")
        self.wrong("(action a (((?x) () ^b)))", "too many")
        self.wrong("(action a (((?x)^)))", "too few")
        self.wrong("(action ()^)", "too few")

    def test_a_token_is_expected(self):
        for text in ("(kind ^(A))", "(kind A ^(B))", "(object ^(a) K)", "(object a ^(K))", "(fact ^(a) ())", "(fact a (K ^(K)))",
                     "(number ^() () 0 1)", "(resource ^(r) () 1)", "(action ^(a) ())", "(action a ((^(?x) K)))",
                     "(action a ((?x ^(K))))", "(goal (f ^(a)))", "(goal (f a ^()))", "(goal (same ^(a) b))",
                     "(goal (same a ^(b)))", "(goal (all ((^() K)) a))", "(goal (= (n ^(a)) 1))",
                     "(action a () (then (make (f ^(a)))))", "(action a () (use (r ^(a)) 1))", "(start (f ^(a)))",
                     "(start (= (n ^(a)) 1))"):
            self.wrong(text, "a token is expected")

    def test_a_list_is_expected(self):
        for text in ("(fact a ^K)", "(number n ^K 0 1)", "(resource r ^K 1)", "(action a ^b)", "(action a (^?x))",
                     "(action a ((?x K) ^?y))", "(action a () ^if)", "(action a () (if true) ^then)", "(goal (all ^?x a))",
                     "(goal (some (^?x K) a))", "(action a () (then (each ^?x)))", "(action a () (then (each (^?x K))))"):
            self.wrong(text, "a list is expected")

    def test_an_integer_is_expected(self):
        for text in ("(number n () ^a 1)", "(number n () 0 ^(1))", "(number n () 0 ^01)", "(resource r () ^-0)",
                     "(action a () (use r ^x))", "(action a () (use r ^()))", "(start (= n ^m))", "(start (= n ^(- 1 2)))",
                     "(goal (= (* ^x 1) 1))", "(goal (= (* ^(1) 1) 1))", "(goal (= ^- 1))", "(goal (= ^1a 1))",
                     "(goal (= ^-x 1))", "(goal (= 1 ^--1))", "(goal (= ^00 1))", "(action a () (cost ^1-1))",
                     "(goal (<= ^" + "1" * 101 + " 1))", "(number n () ^-" + "1" * 101 + " 1)", "(action a () (time ^-?x))"):
            self.wrong(text, "an integer is expected")
        # Words that begin otherwise are numbers, which are not declared here.
        for text in ("(goal ^(= +1 1))", "(goal ^(= a1 1))", "(goal ^(= =1 1))", "(goal ^(= ?1 1))", "(goal ^(= _1 1))"):
            self.fails(read_task, text, "unknown")

    def test_from_left_to_right(self):
        self.wrong("(fact ^(a) b)", "a token is expected")
        self.wrong("(goal (and (f ^()) (not)))", "a token is expected")
        self.wrong("(goal (and (not^) (f ())))", "too few")
        self.wrong("(action ^() (?x) (unknown))", "a token is expected")
        self.wrong("(action a (^?x) (unknown))", "a list is expected")
        self.wrong("(action a () (if (^)) (unknown))", "a word is expected")
        self.wrong("(number n ^K a b)", "a list is expected")
        self.wrong("(number n () ^a b)", "an integer is expected")
        self.wrong("(goal (<= ^01 ()))", "an integer is expected")
        # Every command is read before the task is made.
        self.fails(read_task, "(object a Unknown) (goal (^))", "a word is expected")


class TaskProblemsTest(TextCase):
    """Point 121."""

    def wrong(self, text, words):
        self.fails(read_task, text, words)

    def test_the_example_of_the_interface(self):
        self.wrong("(kind Place)\n^(object home Plac)", "kind")

    def test_entries(self):
        for text, words in (("(kind A) ^(kind place)", "name"), ("^(kind Thing)", "duplicate"), ("(kind A) ^(kind A)", "duplicate"),
                            ("(kind A) ^(kind B C) (kind C)", "kind"), ("(object a Thing) ^(object not Thing)", "name"),
                            ("(object a Thing)\n ^(object a Thing)", "duplicate"), ("^(fact A ())", "name"),
                            ("(fact a ()) ^(fact a ())", "duplicate"), ("^(fact a (K))", "kind"),
                            ("^(fact a (Thing Thing Thing Thing Thing))", "count"), ("^(number n () 1 0)", "range"),
                            ("^(number n () 0 201)", "range"), ("(fact f ()) ^(number f () 0 1)", "duplicate"),
                            ("^(number n (K) 0 1)", "kind"), ("^(resource r () 0)", "range"), ("^(resource R () 1)", "name"),
                            ("^(resource r () 1000001)", "range"), ("(resource r () 1) ^(resource r () 1)", "duplicate"),
                            ("^(action A ())", "name"), ("(action a ()) ^(action a ())", "duplicate"),
                            ("^(kind true) (object a K)", "name")):
            self.wrong(text, words)

    def test_parts_with_too_many_entries(self):
        for part, line, most in (("kind", "(kind K{})", 12), ("object", "(object o{} Thing)", 30), ("fact", "(fact f{} ())", 12),
                                 ("number", "(number n{} () 0 1)", 8), ("resource", "(resource r{} () 1)", 8),
                                 ("action", "(action a{} ())", 12)):
            lines = [line.format(place) for place in range(most + 1)]
            read_task("\n".join(lines[:most]))
            # The place is that of the last command of the part, wherever the others stand.
            self.wrong("\n".join(lines[:most] + ["(goal true) ^" + lines[most], "(start)"]), "many")

    def test_parts_that_declare_too_many(self):
        objects = " ".join(f"(object o{k} Thing)" for k in range(11))
        self.wrong(objects + "(fact f (Thing)) ^(fact g (Thing Thing)) (goal true)", "many")
        self.wrong(objects + "^(number f (Thing Thing)  0 1)", "many")
        self.wrong(objects + "(resource f (Thing Thing) 1) ^(resource g () 1) (fact a ())", "many")
        self.wrong(objects + "(action f ((?x Thing) (?y Thing) (?z Thing))) ^(action g ()) (fact a ())", "many")

    def test_the_first_part_counts(self):
        self.wrong("(goal unknown) (start unknown) (action a () (if unknown)) ^(fact f (K))", "kind")
        self.wrong("(goal unknown) ^(object a K) (fact f (K))", "kind")
        self.wrong("(start ^unknown) (goal unknown)", "unknown")
        self.wrong("(goal unknown) (start a) (fact a ()) (action a () ^(if b))", "unknown")

    def test_the_start(self):
        parts = "(kind K) (object o K) (object t Thing) (fact f (K)) (number n (K) 0 9) "
        for items, words in (("(f o) ^g", "unknown"), ("^(f)", "count"), ("(f o) ^(f t)", "kind"), ("^(f x)", "unknown"),
                             ("(f o) ^(f o)", "duplicate"), ("^(= m 1)", "unknown"), ("^(= n 1)", "count"),
                             ("^(= (n o) 10)", "range"), ("(= (n o) 1) ^(= (n o) 1)", "duplicate"), ("^(= (n t) 1)", "kind"),
                             ("^true", "unknown"), ("^(not f)", "unknown"), ("^n", "unknown"), ("^(= f 1)", "unknown")):
            self.wrong(parts + f"\n(start {items})", words)
        # The facts are checked before the numbers.
        self.wrong(parts + "(start (= (n o) 10) (f o) ^(f x))", "unknown")
        self.wrong(parts + "(start (f o) ^(= (n o) 10) (= m 1))", "range")

    def test_the_goal(self):
        for text, words in (("(goal ^g)", "unknown"), ("(goal\n ^(and true g))", "unknown"), ("(goal ^(same a b))", "unknown"),
                            ("(goal ^(all () true))", "count"), ("(goal ^(all ((x Thing)) true))", "name"),
                            ("(goal ^(all ((?x Thing) (?x Thing)) true))", "duplicate"),
                            ("(goal ^(all ((?x K)) true))", "kind"), ("(goal ^(= 1000001 1))", "range"),
                            ("(goal ^(and " + "true " * 200 + "))", "large"),
                            ("(goal ^" + "(not " * 12 + "true" + ")" * 12 + ")", "deep"), ("(goal ^(true))", "unknown")):
            self.wrong(text, words)
        many = " ".join(f"(object o{k} Thing)" for k in range(13))
        self.wrong(many + "(goal ^(all ((?x Thing) (?y Thing) (?z Thing)) true))", "wide")

    def test_the_items_of_an_action(self):
        parts = "(kind K) (object o K) (object t Thing) (fact f (K)) (number n (K) 0 9) (resource r (K) 2) "
        for text, words in (
                ("(action a ^((x K)))", "name"), ("(action a ^((?x K) (?x K)))", "duplicate"), ("(action a ^((?x L)))", "kind"),
                ("(action a\n  ^((?a K) (?b K) (?c K) (?d K) (?e K)))", "count"), ("(action a () ^(if (f ?x)))", "unknown"),
                ("(action a () (if true)\n^(then (make (f t))))", "kind"), ("(action a () ^(cost (n)))", "count"),
                ("(action a () ^(cost 1000001))", "range"), ("(action a () (cost 1) ^(time m))", "unknown"),
                ("(action a () ^(use s 1))", "unknown"), ("(action a () ^(use (r o) 0))", "range"),
                ("(action a () ^(use (r o) 1) (use (r t) 1))", "kind"), ("(action a () ^(use (r o) 1) (use r 1))", "count"),
                ("(action a () ^(use (r o) 1) (use (r o) 1) (use (r o) 1) (use (r o) 1) (use (r o) 1))", "many"),
                ("(action a () ^(then " + "(make (f o)) " * 201 + "))", "large"),
                ("(action a ((?y K)) ^(if (all ((?y K)) true)))", "duplicate")):
            self.wrong(parts + text, words)
            self.wrong(parts + "(action b () (use (r o) 1)) " + text + " (action c ((x K)))", words)

    def test_the_first_item_counts(self):
        self.wrong("(action a ^((x K)) (if f) (then (make f)) (cost n) (time n) (use r 1))", "name")
        self.wrong("(action a () ^(if f) (then (make f)) (cost n) (time n) (use r 1))", "unknown")
        self.wrong("(action a () ^(then (make f)) (cost n) (time n) (use r 1))", "unknown")
        self.wrong("(action a () ^(cost n) (time n) (use r 1))", "unknown")
        self.wrong("(action a () ^(time n) (use r 1))", "unknown")
        self.wrong("(action a () ^(use r 1))", "unknown")
        self.wrong("^(action A ((x K)) (if f))", "name")


if __name__ == "__main__":
    unittest.main()

"""The rules of the language subset that can be read off the files: L1, L2, L3, L10, L14 to L17, L26 and others."""

import ast
import builtins
import os
import unittest

FOLDER = os.path.join(os.path.dirname(os.path.dirname(os.path.abspath(__file__))), "sureplan")
LIBRARY = {
    "heapq": {"heappush", "heappop", "heapify", "heapreplace", "heappushpop"},
    "math": {"gcd", "lcm", "isqrt", "comb", "perm", "factorial"},
    "itertools": {"product", "combinations", "permutations", "chain", "accumulate", "pairwise", "islice", "zip_longest"},
    "collections": {"defaultdict"},
}
CALLED_BUILTINS = {
    "len", "range", "enumerate", "zip", "min", "max", "sum", "abs", "sorted", "reversed", "int", "str", "bool", "list",
    "tuple", "dict", "set", "isinstance", "ord", "repr", "any", "all", "divmod", "pow", "map", "iter", "next", "Exception",
    "ValueError", "TypeError", "KeyError", "IndexError", "LookupError", "NotImplementedError", "property",
}
BARRED = {"register", "mro", "elements", "open", "input", "law", "version_info", "with_traceback", "add_note"}
METHODS = {
    "append", "clear", "copy", "count", "endswith", "extend", "find", "get", "index", "insert", "isalnum", "isalpha",
    "isdigit", "islower", "isspace", "isupper", "items", "join", "keys", "ljust", "lower", "lstrip", "partition", "pop",
    "remove", "replace", "reverse", "rfind", "rjust", "rpartition", "rsplit", "rstrip", "setdefault", "split",
    "splitlines", "startswith", "strip", "update", "upper", "values", "zfill", "bit_length", "sort", "add", "discard",
}
# L26 excludes what builtin values have, and names these; not every Python has all of them.
EXCLUDED_ATTRIBUTES = {
    "items", "keys", "values", "pop", "update", "append", "clear", "extend", "insert", "remove", "reverse",
    "setdefault", "sort", "args", "encode", "decode", "hex", "fromhex", "format", "as_integer_ratio", "bit_count",
    "conjugate", "from_bytes", "is_integer", "to_bytes",
}
BUILTIN_ATTRIBUTES = EXCLUDED_ATTRIBUTES | {
    name for kind in (str, int, float, bool, list, dict, set, frozenset, bytes, tuple) for name in dir(kind)
    if not name.startswith("__")
}
ALLOWED_ATTRIBUTES = {
    "count", "index", "title", "find", "get", "join", "lower", "upper", "split", "strip", "copy", "add",
}


def files():
    return sorted(name for name in os.listdir(FOLDER) if name.endswith(".py"))


def text_of(name):
    with open(os.path.join(FOLDER, name), encoding="utf-8") as file:
        return file.read()


def trees():
    return [(name, ast.parse(text_of(name))) for name in files()]


def bound_names(node):
    """The names that a node binds itself."""
    if isinstance(node, (ast.FunctionDef, ast.ClassDef)):
        return [node.name]
    if isinstance(node, ast.arg):
        return [node.arg]
    if isinstance(node, ast.Name) and isinstance(node.ctx, ast.Store):
        return [node.id]
    if isinstance(node, ast.ExceptHandler) and node.name:
        return [node.name]
    return [alias.asname or alias.name for alias in node.names] if isinstance(node, ast.ImportFrom) else []


def stored_names(node):
    """The names that a statement in the body of a class gives to the class, except plain methods."""
    if isinstance(node, ast.FunctionDef):
        return [node.name] if node.decorator_list else []
    return [part.id for part in ast.walk(node) if isinstance(part, ast.Name) and isinstance(part.ctx, ast.Store)]


def wrong_attributes(tree):
    """The rows and names of attributes that L26 excludes, and of properties and class values that L5 excludes."""
    called = {node.func for node in ast.walk(tree) if isinstance(node, ast.Call)}
    found = []
    for node in ast.walk(tree):
        if isinstance(node, ast.Attribute) and not (isinstance(node.ctx, ast.Load) and node in called):
            if node.attr in BUILTIN_ATTRIBUTES - ALLOWED_ATTRIBUTES:
                found.append((node.lineno, node.attr))
        if isinstance(node, ast.ClassDef):
            given = [(part.lineno, one) for part in node.body for one in stored_names(part)]
            found += [(row, one) for row, one in given if one in BUILTIN_ATTRIBUTES]
    return sorted(found)


class FilesTest(unittest.TestCase):
    def test_the_folder_holds_nothing_else(self):
        for name in os.listdir(FOLDER):
            self.assertTrue(name == "__pycache__" or name.endswith(".py") and name == name.lower(), name)

    def test_sizes_and_characters(self):
        for name in files():
            text = text_of(name)
            lines = text.split("\n")
            self.assertLessEqual(len(lines) - 1, 399, name)
            for number, line in enumerate(lines, 1):
                self.assertLessEqual(len(line), 120, (name, number))
                self.assertTrue(all(" " <= letter <= "~" for letter in line), (name, number))

    def test_functions_have_at_most_forty_lines(self):
        for name, tree in trees():
            for node in ast.walk(tree):
                if isinstance(node, ast.FunctionDef):
                    self.assertLessEqual(node.end_lineno - node.lineno + 1, 40, (name, node.name))
                    for one in node.decorator_list:
                        self.assertIn(ast.unparse(one), ("property", "staticmethod", "classmethod"), (name, node.name))


class ImportsTest(unittest.TestCase):
    def test_imports(self):
        defined = {}
        for name, tree in trees():
            defined["sureplan." + name[:-3]] = {one for node in tree.body if not isinstance(node, ast.ImportFrom)
                                                for part in ast.walk(node) for one in bound_names(part)}
        for name, tree in trees():
            for node in ast.walk(tree):
                self.assertNotIsInstance(node, ast.Import, name)
                if isinstance(node, ast.ImportFrom):
                    self.assertIn(node, tree.body)
                    self.assertEqual(node.level, 0)
                    allowed = LIBRARY.get(node.module, defined.get(node.module, set()))
                    for alias in node.names:
                        self.assertIn(alias.name, allowed, (name, node.module))
                        self.assertIsNone(alias.asname)

    def test_no_two_files_import_from_each_other(self):
        below = {}
        for name, tree in trees():
            below[name[:-3]] = [node.module[9:] for node in tree.body
                                if isinstance(node, ast.ImportFrom) and node.module.startswith("sureplan.")]
        while below:
            free = [name for name in below if not any(other in below for other in below[name])]
            self.assertTrue(free, below)
            for name in free:
                del below[name]

    def test_names_of_the_library_are_only_called(self):
        library = {name for names in LIBRARY.values() for name in names}
        for name, tree in trees():
            called = [node.func for node in ast.walk(tree) if isinstance(node, ast.Call) and not node.keywords]
            for node in ast.walk(tree):
                if isinstance(node, ast.Name) and node.id in library:
                    self.assertIn(node, called, (name, node.lineno))

    def test_every_import_is_used(self):
        for name, tree in trees():
            used = {node.id for node in ast.walk(tree) if isinstance(node, ast.Name)}
            for node in tree.body:
                if isinstance(node, ast.ImportFrom):
                    self.assertEqual([one for one in bound_names(node) if one not in used], [], name)


class NamesTest(unittest.TestCase):
    def test_no_builtin_and_no_barred_name_is_bound(self):
        for name, tree in trees():
            for node in ast.walk(tree):
                for one in bound_names(node):
                    if one not in ("_", "__init__"):
                        self.assertFalse(hasattr(builtins, one), (name, one))
                        self.assertNotIn(one, BARRED, name)
                        self.assertFalse(one.startswith("__"), (name, one))

    def test_names_of_the_module_level_are_bound_once(self):
        for name, tree in trees():
            found = []
            for node in tree.body:
                if isinstance(node, ast.Assign):
                    found += [target.id for target in node.targets]
                    self.assertEqual(len(node.targets), 1)
                elif not isinstance(node, ast.Expr):
                    found += bound_names(node)
            self.assertEqual(len(set(found)), len(found), name)
            inner = [one for node in ast.walk(tree) if node not in tree.body for one in bound_names(node)]
            taken = [one for node in tree.body if isinstance(node, (ast.ImportFrom, ast.ClassDef))
                     for one in bound_names(node)]
            self.assertEqual([one for one in inner if one in taken], [], name)

    def test_only_the_listed_builtins_are_used(self):
        for name, tree in trees():
            for node in ast.walk(tree):
                if isinstance(node, ast.Name) and hasattr(builtins, node.id) and node.id != "_":
                    self.assertIn(node.id, CALLED_BUILTINS, (name, node.lineno))


class StatementsTest(unittest.TestCase):
    allowed_at_module_level = (ast.Expr, ast.ImportFrom, ast.FunctionDef, ast.ClassDef, ast.Assign)
    barred = (ast.Global, ast.AsyncFunctionDef, ast.AsyncFor, ast.AsyncWith, ast.Await, ast.Div, ast.Yield, ast.YieldFrom)

    def test_statements(self):
        for name, tree in trees():
            for node in tree.body:
                self.assertIsInstance(node, self.allowed_at_module_level, name)
                if isinstance(node, ast.Expr):
                    self.assertIsInstance(node.value.value, str)
            for node in ast.walk(tree):
                self.assertNotIsInstance(node, self.barred, name)
                if isinstance(node, ast.Constant):
                    self.assertNotIsInstance(node.value, (float, complex, bytes), name)

    def test_decorators(self):
        for name, tree in trees():
            decorators = [one for node in ast.walk(tree) if isinstance(node, (ast.FunctionDef, ast.ClassDef))
                          for one in node.decorator_list]
            for one in decorators:
                self.assertEqual(one.id, "property", name)
            named = [node for node in ast.walk(tree) if isinstance(node, ast.Name) and node.id == "property"]
            self.assertEqual(named, decorators, name)

    def test_attributes_are_assigned_through_local_names(self):
        for name, tree in trees():
            for node in ast.walk(tree):
                if isinstance(node, ast.Attribute) and isinstance(node.ctx, ast.Store):
                    self.assertIsInstance(node.value, ast.Name, (name, node.lineno))

    def test_no_name_is_a_method_and_an_attribute(self):
        # The interface itself has a method and an attribute `line`, in different classes.
        methods, attributes = set(), set()
        for _, tree in trees():
            for one in [node for node in ast.walk(tree) if isinstance(node, ast.ClassDef)]:
                methods |= {node.name for node in one.body if isinstance(node, ast.FunctionDef)}
                attributes |= {node.attr for node in ast.walk(one)
                               if isinstance(node, ast.Attribute) and isinstance(node.ctx, ast.Store)}
        self.assertEqual(methods & attributes, {"line"})

    def test_is_stands_beside_none_true_and_false(self):
        for name, tree in trees():
            for node in ast.walk(tree):
                if isinstance(node, ast.Compare):
                    for sign, right in zip(node.ops, node.comparators):
                        if isinstance(sign, (ast.Is, ast.IsNot)):
                            self.assertIsInstance(right, ast.Constant, (name, node.lineno))
                            self.assertIn(right.value, (None, True, False))

    def test_methods_of_builtin_values(self):
        own = {node.name for _, tree in trees() for node in ast.walk(tree) if isinstance(node, ast.FunctionDef)}
        for name, tree in trees():
            for node in ast.walk(tree):
                if isinstance(node, ast.Call) and isinstance(node.func, ast.Attribute):
                    self.assertIn(node.func.attr, METHODS | own | {"__init__"}, (name, node.lineno))

    def test_generator_expressions_stand_beside_nothing_complicated(self):
        takers = {"list", "tuple", "dict", "sorted", "sum", "min", "max", "any", "all"}
        for name, tree in trees():
            good = [part for node in ast.walk(tree) if isinstance(node, ast.Call) and isinstance(node.func, ast.Name)
                    and node.func.id in takers and len(node.args) == 1 for part in node.args]
            for node in ast.walk(tree):
                if isinstance(node, ast.GeneratorExp):
                    self.assertIn(node, good, (name, node.lineno))


class OwnNamesTest(unittest.TestCase):
    """L26, and what finds names against it."""

    def found_in(self, text):
        return [name for _, name in wrong_attributes(ast.parse(text))]

    def test_no_attribute_has_an_excluded_name(self):
        for name, tree in trees():
            self.assertEqual(wrong_attributes(tree), [], name)

    def test_no_method_has_an_excluded_name(self):
        for name, tree in trees():
            for one in [node for node in ast.walk(tree) if isinstance(node, ast.ClassDef)]:
                methods = {node.name for node in one.body if isinstance(node, ast.FunctionDef)}
                self.assertEqual(methods & (BUILTIN_ATTRIBUTES - (METHODS - {"sort"})), set(), name)

    def test_each_excluded_name_would_be_found_in_each_file(self):
        names = sorted(EXCLUDED_ATTRIBUTES | {"discard", "partition", "real", "union"})
        rows = "".join(f"        self.{one} = given\n" for one in names)
        for name in files():
            added = f"\n\nclass Added:\n    def __init__(self, given):\n{rows}"
            self.assertEqual(self.found_in(text_of(name) + added), names, name)

    def test_an_excluded_name_would_be_found_wherever_it_is_given(self):
        for row in ("self.items = 1", "box.items = 1", "self.items: int = 1", "self.items += 1", "a = self.items = 1",
                    "a, self.items = 1, 2", "a, (b, *self.items) = x", "for self.items in x: pass",
                    "return self.items", "return self.items[0]", "return self.items.count", "return len(self.items)",
                    "return [one for one in self.items]"):
            self.assertEqual(self.found_in(f"class Box:\n    def put(self, box, x):\n        {row}\n"), ["items"], row)
        for row in ("items = 1", "items: int = 1", "@property\n    def items(self): return 1", "count = 1",
                    "@property\n    def count(self): return 1"):
            self.assertEqual(len(self.found_in(f"class Box:\n    {row}\n")), 1, row)

    def test_other_names_are_left_alone(self):
        for one in sorted(ALLOWED_ATTRIBUTES | {"asked", "item", "entries", "start"}):
            self.assertEqual(self.found_in(f"def put(box):\n    box.{one} = 1\n    return box.{one}\n"), [], one)
        self.assertEqual(self.found_in("def put(box):\n    items = list(box.rows.items())\n    items.append(1)\n"), [])


if __name__ == "__main__":
    unittest.main()

"""The rules of the language that a look at the files can tell."""

import ast
import builtins
import functools
import os
import unittest

FOLDER = os.path.join(os.path.dirname(os.path.dirname(os.path.abspath(__file__))), "ridgewatch")

LIBRARY = {"math": "gcd", "itertools": "combinations"}

BUILTINS = set(
    "len range enumerate zip min max sum abs sorted reversed int str bool list tuple dict set isinstance ord repr any "
    "all divmod Exception ValueError TypeError KeyError IndexError LookupError".split())

METHODS = set(
    "append clear copy count endswith extend find get index insert isalnum isalpha isdigit islower isspace isupper "
    "items join keys ljust lower lstrip partition pop remove replace reverse rfind rjust rpartition rsplit rstrip "
    "setdefault split splitlines startswith strip update upper values zfill bit_length add discard".split())

BARRED = set(
    "register mro elements open input law version_info with_traceback add_note attrgetter breakpoint compile "
    "copyright credits delattr dir eval exec exit gc globals help id importlib license locals os quit super sys type "
    "vars".split())

WORDS = ["type", "typing", "enum", "Enum", "Generic", "Protocol", "namedtuple", "dataclass", "overload",
         "contextmanager", "_wall"]

STATEMENTS = (
    ast.FunctionDef, ast.ClassDef, ast.Return, ast.Assign, ast.AugAssign, ast.For, ast.While, ast.If, ast.Raise,
    ast.Try, ast.Pass, ast.Break, ast.Continue, ast.Expr, ast.ImportFrom, ast.Assert, ast.Delete)


def sources():
    """Each file's name and text."""
    found = []
    for name in sorted(os.listdir(FOLDER)):
        if name != "__pycache__":
            with open(os.path.join(FOLDER, name), encoding="utf-8") as file:
                found.append((name, file.read()))
    return found


@functools.cache
def trees():
    """Each file's name and tree."""
    return [(name, ast.parse(text)) for name, text in sources()]


def is_builtin(word):
    """Whether Python itself gives the word a meaning; doctest adds _ to these."""
    return word != "_" and hasattr(builtins, word)


def bound_names(node):
    """The names of parameters and variables within a node."""
    found = set()
    for part in ast.walk(node):
        if isinstance(part, ast.arg):
            found.add(part.arg)
        elif isinstance(part, ast.Name) and not isinstance(part.ctx, ast.Load):
            found.add(part.id)
    return found


class Files(unittest.TestCase):
    def test_files_are_plain(self):
        for name, text in sources():
            self.assertRegex(name, r"^[a-z_]+\.py$")
            self.assertLessEqual(text.count("\n"), 399, name)
            for line in text.split("\n"):
                self.assertLessEqual(len(line), 120, name)
                self.assertRegex(line, r"^[ -~]*$", name)
                self.assertNotIn("_wall", line, name)

    def test_functions_are_short(self):
        for name, tree in trees():
            for node in ast.walk(tree):
                if isinstance(node, ast.FunctionDef):
                    self.assertLessEqual(node.end_lineno - node.lineno + 1, 40, (name, node.name))
                    self.assertEqual(node.decorator_list, [], (name, node.name))

    def test_module_level(self):
        for name, tree in trees():
            for k, node in enumerate(tree.body):
                plain = isinstance(node, (ast.ImportFrom, ast.FunctionDef, ast.ClassDef, ast.Assign))
                text = isinstance(node, ast.Expr) and k == 0 and isinstance(node.value, ast.Constant)
                self.assertTrue(plain or text, (name, node.lineno))
                if isinstance(node, ast.Assign):
                    self.assertEqual(len(node.targets), 1)
                    above = {part.name for part in tree.body[:k] if isinstance(part, ast.FunctionDef)}
                    if isinstance(node.value, ast.Dict):
                        for key, value in zip(node.value.keys, node.value.values):
                            ast.literal_eval(key)
                            self.assertTrue(isinstance(value, ast.Name) and value.id in above, (name, node.lineno))
                    else:
                        ast.literal_eval(node.value)


class Code(unittest.TestCase):
    def test_statements_and_operators(self):
        barred = (ast.Div, ast.MatMult, ast.GeneratorExp, ast.Global, ast.Nonlocal, ast.Await, ast.Yield,
                  ast.YieldFrom, ast.With, ast.Set, ast.Import, ast.Lambda, ast.Starred)
        for name, tree in trees():
            for node in ast.walk(tree):
                self.assertFalse(isinstance(node, barred), (name, getattr(node, "lineno", 0)))
                if isinstance(node, ast.stmt):
                    self.assertIsInstance(node, STATEMENTS, (name, node.lineno))

    def test_constants(self):
        for name, tree in trees():
            for node in ast.walk(tree):
                if isinstance(node, ast.Constant):
                    self.assertTrue(node.value is None or isinstance(node.value, (int, str)), (name, node.lineno))
                    self.assertNotIn("%", str(node.value), (name, node.lineno))

    def test_imports(self):
        for name, tree in trees():
            defined = {}
            for node in ast.walk(tree):
                if isinstance(node, ast.ImportFrom):
                    for alias in node.names:
                        self.assertIsNone(alias.asname)
                        self.assertNotIn(alias.name, defined, name)
                        defined[alias.name] = True
                        if node.module in LIBRARY:
                            self.assertEqual(alias.name, LIBRARY[node.module])
                            continue
                        file = node.module.replace("ridgewatch.", "") + ".py"
                        told = {part.name for part in dict(trees())[file].body
                                if isinstance(part, (ast.FunctionDef, ast.ClassDef))}
                        told |= {part.targets[0].id for part in dict(trees())[file].body
                                 if isinstance(part, ast.Assign)}
                        self.assertIn(alias.name, told, (name, node.module))
            for node in tree.body:
                if isinstance(node, (ast.FunctionDef, ast.ClassDef)):
                    self.assertNotIn(node.name, defined, name)
                    defined[node.name] = True
            used = {node.id for node in ast.walk(tree) if isinstance(node, ast.Name)}
            used |= {base.id for node in ast.walk(tree) if isinstance(node, ast.ClassDef) for base in node.bases}
            for node in ast.walk(tree):
                if isinstance(node, ast.ImportFrom):
                    for alias in node.names:
                        self.assertIn(alias.name, used, name)

    def test_no_circles(self):
        needs = {name: [node.module.replace("ridgewatch.", "") + ".py" for node in tree.body
                        if isinstance(node, ast.ImportFrom) and node.module not in LIBRARY] for name, tree in trees()}
        placed = set()
        while len(placed) < len(needs):
            ready = [name for name in needs if name not in placed and all(other in placed for other in needs[name])]
            self.assertTrue(ready, needs)
            placed.update(ready)


class Names(unittest.TestCase):
    def test_builtins(self):
        for name, tree in trees():
            for node in ast.walk(tree):
                if isinstance(node, ast.Name) and is_builtin(node.id):
                    self.assertIsInstance(node.ctx, ast.Load, (name, node.lineno))
                    self.assertIn(node.id, BUILTINS, (name, node.lineno))

    def test_no_name_hides_another(self):
        for name, tree in trees():
            taken = {alias.name for node in ast.walk(tree) if isinstance(node, ast.ImportFrom) for alias in node.names}
            taken |= {node.name for node in tree.body if isinstance(node, ast.ClassDef)}
            for node in tree.body:
                if isinstance(node, (ast.FunctionDef, ast.ClassDef)):
                    bound = bound_names(node) | {node.name}
                    self.assertFalse(bound_names(node) & taken, (name, node.name))
                    self.assertFalse({one for one in bound if is_builtin(one)}, (name, node.name))

    def test_barred_names(self):
        for name, tree in trees():
            for node in ast.walk(tree):
                for one in [getattr(node, field, None) for field in ("id", "arg", "attr", "name")]:
                    self.assertNotIn(one, BARRED, name)
                if isinstance(node, ast.Constant) and isinstance(node.value, str) and "\n" not in node.value:
                    for word in WORDS:
                        self.assertNotIn(word, node.value.split(), (name, node.lineno))

    def test_methods(self):
        own = {part.name for _, tree in trees() for node in tree.body if isinstance(node, ast.ClassDef)
               for part in node.body if isinstance(part, ast.FunctionDef)}
        for name, tree in trees():
            for node in ast.walk(tree):
                if isinstance(node, ast.Call) and isinstance(node.func, ast.Attribute):
                    self.assertIn(node.func.attr, METHODS | own, (name, node.lineno))
        for word in own:
            if not word.startswith("__"):
                for kind in (int, str, bytes, list, tuple, dict, set):
                    self.assertFalse(hasattr(kind, word), word)


if __name__ == "__main__":
    unittest.main()

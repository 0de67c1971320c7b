"""The rules of the language that a look at the source can tell: sizes, characters, imports, names, calls."""

import ast
import builtins
import pathlib
import unittest

FOLDER = pathlib.Path(__file__).resolve().parent.parent / "steadybodies"
LIBRARY = {
    "math": {"gcd", "lcm", "isqrt", "comb", "perm", "factorial"},
    "heapq": {"heappush", "heappop", "heapify", "heapreplace", "heappushpop"},
    "itertools": {
        "product", "combinations", "permutations", "chain", "accumulate", "pairwise", "islice", "zip_longest",
    },
    "collections": {"defaultdict"},
}
BUILTINS = set(
    "len range enumerate zip min max sum abs sorted reversed int str bool list tuple dict set isinstance ord repr "
    "any all divmod iter next Exception ValueError TypeError KeyError IndexError LookupError ZeroDivisionError "
    "property super".split()
)
METHODS = set(
    "append clear copy count endswith extend find get index insert isalnum isalpha isdigit islower isspace isupper "
    "items join keys ljust lower lstrip partition pop remove replace reverse rfind rjust rpartition rsplit rstrip "
    "setdefault split splitlines startswith strip update upper values zfill bit_length removeprefix removesuffix "
    "sort".split()
)
STATEMENTS = (
    ast.Assign, ast.AugAssign, ast.If, ast.While, ast.For, ast.Return, ast.Break, ast.Continue, ast.Pass, ast.Raise,
    ast.Assert, ast.Delete, ast.Expr, ast.Try, ast.FunctionDef, ast.ClassDef, ast.ImportFrom,
)


def sources():
    for path in sorted(FOLDER.glob("*.py")):
        yield path, path.read_text("utf-8")


def trees():
    for path, text in sources():
        yield path, ast.parse(text)


def bound_names(node):
    """The names that a node binds, one of a function, class, parameter, variable or import."""
    if isinstance(node, (ast.FunctionDef, ast.ClassDef)):
        return [node.name]
    if isinstance(node, ast.arg):
        return [node.arg]
    if isinstance(node, ast.Name) and not isinstance(node.ctx, ast.Load):
        return [node.id]
    return []


class LanguageTest(unittest.TestCase):
    def test_the_package_is_one_folder_of_source_files(self):
        for path in FOLDER.iterdir():
            if path.name != "__pycache__":
                self.assertRegex(path.name, r"^[a-z0-9_]+\.py$")

    def test_sizes_and_characters(self):
        for path, text in sources():
            with self.subTest(path.name):
                lines = text.split("\n")
                self.assertLessEqual(len(lines), 400)
                self.assertLessEqual(max(len(line) for line in lines), 120)
                self.assertTrue(all(character == "\n" or " " <= character <= "~" for character in text))

    def test_functions_have_at_most_40_lines(self):
        for path, tree in trees():
            for node in ast.walk(tree):
                if isinstance(node, ast.FunctionDef):
                    self.assertLessEqual(node.end_lineno - node.lineno + 1, 40, f"{path.name} {node.name}")

    def test_statements_and_operators(self):
        for path, tree in trees():
            for node in ast.walk(tree):
                where = f"{path.name} {getattr(node, 'lineno', 0)}"
                if isinstance(node, ast.stmt):
                    self.assertIsInstance(node, STATEMENTS, where)
                self.assertNotIsInstance(node, (ast.Div, ast.MatMult, ast.Await), where)

    def test_literals(self):
        for path, tree in trees():
            for node in ast.walk(tree):
                if isinstance(node, ast.Constant):
                    self.assertNotIsInstance(node.value, (float, complex, bytes), path.name)
                    if isinstance(node.value, str):
                        self.assertNotIn("%", node.value, path.name)

    def test_imports(self):
        for path, tree in trees():
            for node in ast.walk(tree):
                self.assertNotIsInstance(node, ast.Import, path.name)
                if isinstance(node, ast.ImportFrom):
                    self.check_import(path, tree, node)

    def check_import(self, path, tree, node):
        self.assertIn(node, tree.body, path.name)
        self.assertEqual(node.level, 0)
        names = {alias.name for alias in node.names}
        if node.module in LIBRARY:
            self.assertLessEqual(names, LIBRARY[node.module], path.name)
            return
        package, module = node.module.split(".")
        self.assertEqual(package, "steadybodies")
        home = ast.parse((FOLDER / f"{module}.py").read_text("utf-8"))
        defined = {name for top in home.body for name in self.top_names(top)}
        self.assertLessEqual(names, defined, path.name)

    def top_names(self, node):
        if isinstance(node, ast.Assign):
            return bound_names(node.targets[0])
        return bound_names(node)

    def test_no_circle_of_imports(self):
        wanted = {}
        for path, tree in trees():
            modules = [node.module for node in tree.body if isinstance(node, ast.ImportFrom)]
            wanted[path.stem] = {module.split(".")[1] for module in modules if module.startswith("steadybodies.")}
        while wanted:
            free = [name for name in wanted if not wanted[name]]
            self.assertTrue(free, f"a circle among {sorted(wanted)}")
            wanted = {name: needs - set(free) for name, needs in wanted.items() if name not in free}

    def test_names(self):
        barred = set(dir(builtins)) | {"open", "input", "law", "register", "mro", "elements"}
        for path, tree in trees():
            methods = [item for node in ast.walk(tree) if isinstance(node, ast.ClassDef) for item in node.body]
            classes = [node.name for node in ast.walk(tree) if isinstance(node, ast.ClassDef)]
            imported = [
                alias.name for node in tree.body if isinstance(node, ast.ImportFrom) for alias in node.names
            ]
            for node in ast.walk(tree):
                for name in bound_names(node):
                    self.assertRegex(name, r"^(_|_?[A-Za-z][A-Za-z0-9_]*|__init__)$", path.name)
                    if node not in methods:
                        self.assertNotIn(name, barred, path.name)
                        self.assertNotIn(name, imported, path.name)
                    if not isinstance(node, ast.ClassDef):
                        self.assertNotIn(name, classes, path.name)

    def test_calls(self):
        own = {"__init__"}
        for _, tree in trees():
            own |= {node.name for node in ast.walk(tree) if isinstance(node, ast.FunctionDef)}
        for path, tree in trees():
            known = {name for node in ast.walk(tree) for name in bound_names(node)}
            known |= {alias.name for node in tree.body if isinstance(node, ast.ImportFrom) for alias in node.names}
            for node in ast.walk(tree):
                if isinstance(node, ast.Name) and isinstance(node.ctx, ast.Load):
                    self.assertIn(node.id, known | BUILTINS, path.name)
                if isinstance(node, ast.Call) and isinstance(node.func, ast.Attribute):
                    self.assertIn(node.func.attr, own | METHODS, path.name)

    def test_sets_are_not_stored(self):
        # A class of the package has a method called add, so no stored set could be filled.
        for path, tree in trees():
            for node in ast.walk(tree):
                if isinstance(node, ast.Assign):
                    self.assertNotIsInstance(node.value, (ast.Set, ast.SetComp), path.name)
                    called = getattr(getattr(node.value, "func", None), "id", None)
                    self.assertNotEqual(called, "set", path.name)

"""The rules of the language for the files of the package, as far as they are easily told from the code."""

import ast
import builtins
import pathlib
import re
import unittest
import warnings

PACKAGE = pathlib.Path(__file__).resolve().parent.parent / "labelgrid"
ALLOWED = """len range enumerate zip min max sum abs sorted reversed int str bool bytes list tuple dict set frozenset isinstance
ord repr any all divmod pow getattr hasattr setattr iter next map Exception ValueError TypeError KeyError IndexError LookupError
ZeroDivisionError ArithmeticError OverflowError RuntimeError NotImplementedError AttributeError StopIteration
NotImplemented defaultdict""".split()
METHODS = """append clear copy count endswith extend find get index insert isalnum isalpha isdigit islower isspace isupper items
join keys ljust lower lstrip partition pop remove replace reverse rfind rjust rpartition rsplit rstrip setdefault split
splitlines startswith strip update upper values zfill bit_length capitalize swapcase casefold expandtabs removeprefix
removesuffix rindex isascii isdecimal isnumeric istitle isidentifier isprintable sort""".split()
NEVER = """register mro elements open input law version_info with_traceback add_note""".split()
WORDS = """type typing typing_extensions enum Enum IntEnum StrEnum Flag IntFlag Generic Protocol ABC ABCMeta namedtuple
NamedTuple TypedDict TYPE_CHECKING abstractmethod""".split()
FORBIDDEN = (ast.AsyncFunctionDef, ast.Global, ast.Await, ast.Set, ast.AnnAssign, ast.Div, ast.Yield, ast.YieldFrom,
             ast.GeneratorExp, ast.Starred, ast.NamedExpr, ast.Match, ast.With)


def files():
    return sorted(path for path in PACKAGE.rglob("*") if "__pycache__" not in path.parts)


def trees():
    return [(path.name, ast.parse(path.read_text(encoding="utf-8"))) for path in files()]


def bound_names(tree):
    """All names that are bound in a file: assigned, defined, imported, or parameters."""
    for node in ast.walk(tree):
        if isinstance(node, ast.Name) and not isinstance(node.ctx, ast.Load):
            yield node.id
        elif isinstance(node, ast.arg):
            yield node.arg
        elif isinstance(node, (ast.FunctionDef, ast.ClassDef)):
            yield node.name
        elif isinstance(node, ast.alias):
            yield node.asname or node.name


class LanguageTest(unittest.TestCase):
    def test_files(self):
        self.assertGreater(len(files()), 1)
        for path in files():
            self.assertRegex(path.name, r"^(__init__|__main__|[a-z][a-z0-9_]*)\.py$")
            self.assertEqual(path.parent, PACKAGE)

    def test_lines(self):
        for path in files():
            data = path.read_bytes()
            self.assertTrue(all(byte == 10 or 32 <= byte <= 126 for byte in data), path.name)
            lines = data.decode().splitlines()
            self.assertLessEqual(len(lines), 399, path.name)
            self.assertLessEqual(max(len(line) for line in lines), 120, path.name)

    def test_no_line_gives_a_warning(self):
        for path in files():
            with warnings.catch_warnings():
                warnings.simplefilter("error")
                compile(path.read_text(), path.name, "exec")

    def test_lengths_of_functions(self):
        for name, tree in trees():
            for node in ast.walk(tree):
                if isinstance(node, ast.FunctionDef):
                    self.assertLessEqual(node.end_lineno - node.lineno + 1, 40, (name, node.name))

    def test_nodes(self):
        for name, tree in trees():
            for node in ast.walk(tree):
                self.assertNotIsInstance(node, FORBIDDEN, name)
                if isinstance(node, ast.FunctionDef):
                    self.assertEqual(node.decorator_list, [], name)
                if isinstance(node, ast.Constant):
                    self.assertNotIsInstance(node.value, (float, complex, bytes), name)

    def test_module_level(self):
        for name, tree in trees():
            for node in tree.body:
                plain = isinstance(node, ast.Expr) and isinstance(node.value, ast.Constant)
                self.assertTrue(plain or isinstance(node, (ast.ImportFrom, ast.FunctionDef, ast.ClassDef, ast.Assign)), name)
                if isinstance(node, ast.Assign):
                    self.assertEqual([ast.Name], [kind.__class__ for kind in node.targets])
                    self.assertFalse(any(isinstance(part, ast.Call) for part in ast.walk(node)), name)

    def test_each_module_name_is_bound_once(self):
        for name, tree in trees():
            bound = []
            for node in tree.body:
                bound += [part for part in bound_names(node)] if isinstance(node, (ast.ImportFrom, ast.Assign)) else []
                bound += [node.name] if isinstance(node, (ast.FunctionDef, ast.ClassDef)) else []
            self.assertEqual(len(bound), len(set(bound)), name)

    def test_imports(self):
        defined = {name: {part for node in tree.body for part in self.own_names(node)} for name, tree in trees()}
        graph = {}
        for name, tree in trees():
            graph[name] = []
            for node in ast.walk(tree):
                self.assertNotIsInstance(node, ast.Import)
                if isinstance(node, ast.ImportFrom):
                    self.assertRegex(node.module, r"^labelgrid\.[a-z]+$")
                    graph[name].append(node.module.removeprefix("labelgrid.") + ".py")
                    for alias in node.names:
                        self.assertIn(alias.name, defined[graph[name][-1]], name)
                        self.assertIsNone(alias.asname)
        while graph:
            ready = [name for name in graph if not any(other in graph for other in graph[name])]
            self.assertNotEqual(ready, [], "files import from each other")
            graph = {name: graph[name] for name in graph if name not in ready}

    def own_names(self, node):
        if isinstance(node, ast.Assign):
            return [node.targets[0].id]
        return [node.name] if isinstance(node, (ast.FunctionDef, ast.ClassDef)) else []

    def test_names(self):
        taken = set(dir(builtins))
        for name, tree in trees():
            imports = {alias.name for node in tree.body if isinstance(node, ast.ImportFrom) for alias in node.names}
            methods = [item for node in tree.body if isinstance(node, ast.ClassDef) for item in node.body]
            allowed = {item.name for item in methods if isinstance(item, ast.FunctionDef)}
            inner = [part for node in tree.body if not isinstance(node, ast.ImportFrom) for part in bound_names(node)]
            for bound in inner:
                self.assertNotIn(bound, NEVER, name)
                self.assertRegex(bound, r"^(_|_?[A-Za-z][A-Za-z0-9_]*|__init__)$", name)
                if bound not in allowed:
                    self.assertNotIn(bound, taken, name)
                    self.assertNotIn(bound, imports, name)

    def test_builtins_and_methods(self):
        own = {node.name for _, tree in trees() for node in ast.walk(tree) if isinstance(node, ast.FunctionDef)}
        for name, tree in trees():
            for node in ast.walk(tree):
                if isinstance(node, ast.Name) and isinstance(node.ctx, ast.Load) and hasattr(builtins, node.id):
                    self.assertIn(node.id, ALLOWED, name)
                if isinstance(node, ast.Call) and isinstance(node.func, ast.Attribute):
                    self.assertTrue(node.func.attr in METHODS or node.func.attr in own, (name, node.func.attr))

    def test_words_and_strings(self):
        for path in files():
            text = path.read_text()
            tree = ast.parse(text)
            docs = [ast.get_docstring(node, clean=False) for node in ast.walk(tree)
                    if isinstance(node, (ast.Module, ast.ClassDef, ast.FunctionDef))]
            for node in ast.walk(tree):
                if isinstance(node, ast.Constant) and isinstance(node.value, str):
                    self.assertNotIn("%", node.value, path.name)
                    if node.value not in docs:
                        self.assertFalse(set(re.findall(r"\w+", node.value)) & set(WORDS), path.name)
                if isinstance(node, (ast.Name, ast.Attribute)):
                    self.assertNotIn(node.id if isinstance(node, ast.Name) else node.attr, WORDS, path.name)

    def test_sets_and_identity(self):
        for name, tree in trees():
            for node in ast.walk(tree):
                if isinstance(node, ast.Compare):
                    for sign, other in zip(node.ops, node.comparators):
                        if isinstance(sign, (ast.Is, ast.IsNot)):
                            self.assertIsInstance(other, ast.Constant, name)
                if isinstance(node, ast.Assign):
                    self.assertNotIsInstance(node.value, ast.SetComp, name)


if __name__ == "__main__":
    unittest.main()

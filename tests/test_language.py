"""Checks those rules of the Python subset that can be seen in the code, file by file."""

import ast
import builtins
import re
import unittest
from pathlib import Path

PACKAGE = Path(__file__).resolve().parent.parent / "hangbridge"
FILES = sorted(path for path in PACKAGE.rglob("*.py"))

# L8
ALLOWED = set("""len range enumerate zip min max sum abs sorted reversed int str bool list tuple dict set isinstance
    ord repr any all divmod super Exception ValueError TypeError KeyError IndexError LookupError""".split())
# L2
LIBRARY = {"itertools": {"permutations"}}
# L17
NEVER_NAMES = {"register", "mro", "elements", "open", "input", "law", "version_info", "with_traceback", "add_note"}
NEVER_WORDS = set("""type typing typing_extensions enum Enum IntEnum StrEnum Flag IntFlag Generic Protocol ABC ABCMeta
    namedtuple NamedTuple TypedDict TYPE_CHECKING abstractmethod""".split())
# L25
METHODS = set("""append clear copy count endswith extend find get index insert isalnum isalpha isdigit islower isspace
    isupper items join keys ljust lower lstrip partition pop remove replace reverse rfind rjust rpartition rsplit rstrip
    setdefault split splitlines startswith strip update upper values zfill bit_length isascii""".split())
BARRED_NODES = (
    ast.AsyncFunctionDef, ast.AsyncFor, ast.AsyncWith, ast.Await, ast.Global, ast.Import, ast.Yield, ast.YieldFrom,
    ast.Lambda, ast.GeneratorExp, ast.NamedExpr, ast.Div, ast.Pow, ast.MatMult,
)


def shown(path, node):
    return f"{path.name}:{node.lineno}"


def bound_names(tree):
    """Return pairs of a node and a name that it binds in a function."""
    for node in ast.walk(tree):
        if isinstance(node, ast.Name) and isinstance(node.ctx, ast.Store):
            yield node, node.id
        elif isinstance(node, ast.arg):
            yield node, node.arg


class Language(unittest.TestCase):
    def setUp(self):
        self.sources = {path: path.read_text(encoding="utf-8") for path in FILES}
        self.trees = {path: ast.parse(source) for path, source in self.sources.items()}

    def nodes(self, kind):
        for path, tree in self.trees.items():
            for node in ast.walk(tree):
                if isinstance(node, kind):
                    yield path, node

    def test_files(self):
        self.assertIn(PACKAGE / "__init__.py", FILES)
        for path in PACKAGE.rglob("*"):
            if "__pycache__" not in path.parts:
                self.assertTrue(path in FILES, path)
        for path, source in self.sources.items():
            self.assertTrue(re.fullmatch("[a-z_]+[.]py", path.name), path)
            self.assertTrue(all(" " <= sign <= "~" or sign == "\n" for sign in source), path)
            self.assertLessEqual(len(source.splitlines()), 399, path)
            self.assertLessEqual(max([len(line) for line in source.splitlines()]), 120, path)

    def test_functions(self):
        for path, node in self.nodes(ast.FunctionDef):
            self.assertLessEqual(node.end_lineno - node.lineno + 1, 40, shown(path, node))
            self.assertEqual(node.decorator_list, [], shown(path, node))

    def test_imports(self):
        modules = {"hangbridge." + path.stem for path in FILES}
        for path, node in self.nodes(ast.ImportFrom):
            if node.module in LIBRARY:
                self.assertLessEqual({name.name for name in node.names}, LIBRARY[node.module], shown(path, node))
                self.assertEqual([name.asname for name in node.names], [None] * len(node.names), shown(path, node))
                continue
            self.assertIn(node.module, modules, shown(path, node))
            origin = self.trees[PACKAGE / (node.module.split(".")[1] + ".py")]
            here = {child.name for child in origin.body if isinstance(child, (ast.FunctionDef, ast.ClassDef))}
            here |= {child.targets[0].id for child in origin.body if isinstance(child, ast.Assign)}
            for name in node.names:
                self.assertIn(name.name, here, shown(path, node))

    def test_no_import_circles(self):
        known = {path.stem: set() for path in FILES}
        for path, node in self.nodes(ast.ImportFrom):
            if node.module not in LIBRARY:
                known[path.stem].add(node.module.split(".")[1])
        while known:
            free = [name for name, needs in known.items() if not needs & set(known)]
            self.assertTrue(free, known)
            for name in free:
                del known[name]

    def test_barred_nodes(self):
        for path, node in self.nodes(BARRED_NODES):
            self.fail(f"{shown(path, node)}: {node.__class__.__name__}")

    def test_module_level(self):
        for path, tree in self.trees.items():
            for node in tree.body:
                plain = isinstance(node, (ast.Assign, ast.ImportFrom, ast.FunctionDef, ast.ClassDef))
                text = isinstance(node, ast.Expr) and isinstance(node.value, ast.Constant)
                self.assertTrue(plain or text, shown(path, node))
                if isinstance(node, ast.Assign):
                    self.check_plain(path, tree, node)

    def check_plain(self, path, tree, node):
        """Check that a value at module level is plain; functions that stand above it may be in a dict."""
        above = [child.name for child in tree.body
                 if isinstance(child, ast.FunctionDef) and child.lineno < node.lineno]
        if isinstance(node.value, ast.Dict) and isinstance(node.value.values[0], ast.Name):
            for key, value in zip(node.value.keys, node.value.values):
                self.assertIsInstance(key, ast.Constant, shown(path, node))
                self.assertIn(value.id, above, shown(path, node))
            return
        value = ast.literal_eval(node.value)
        rows = list(value.values()) if isinstance(value, dict) else value if isinstance(value, (list, tuple)) else []
        self.assertNotIn(True, [isinstance(row, (list, dict)) for row in rows], shown(path, node))

    def test_builtins_and_bound_names(self):
        for path, tree in self.trees.items():
            imported = {name.name for _, node in self.nodes(ast.ImportFrom) for name in node.names
                        if node in tree.body}
            classes = {node.name for node in tree.body if isinstance(node, ast.ClassDef)}
            for node in ast.walk(tree):
                if isinstance(node, ast.Name) and hasattr(builtins, node.id):
                    self.assertIn(node.id, ALLOWED, shown(path, node))
            for node, name in bound_names(tree):
                self.assertFalse(hasattr(builtins, name), shown(path, node))
                self.assertNotIn(name, imported | classes | NEVER_NAMES, shown(path, node))

    def test_names_and_words(self):
        for path, source in self.sources.items():
            for word in re.findall("[A-Za-z_]+", source):
                self.assertNotIn(word, NEVER_WORDS, path)
        for path, node in self.nodes(ast.Attribute):
            self.assertNotIn(node.attr, NEVER_NAMES, shown(path, node))
        for path, node in self.nodes((ast.FunctionDef, ast.ClassDef)):
            self.assertNotIn(node.name, NEVER_NAMES, shown(path, node))
        for path, tree in self.trees.items():
            for node in tree.body:
                if isinstance(node, (ast.FunctionDef, ast.ClassDef)):
                    self.assertFalse(hasattr(builtins, node.name), shown(path, node))
        # A method may have the name of a builtin that is not used (L15).
        for path, node in self.nodes(ast.ClassDef):
            for child in node.body:
                if isinstance(child, ast.FunctionDef):
                    self.assertNotIn(child.name, ALLOWED, shown(path, child))

    def test_strings(self):
        for path, node in self.nodes(ast.Constant):
            if isinstance(node.value, str):
                self.assertNotIn("%", node.value, shown(path, node))

    def test_methods(self):
        own = {node.name for _, node in self.nodes(ast.FunctionDef)}
        for path, node in self.nodes(ast.Call):
            if isinstance(node.func, ast.Attribute):
                self.assertIn(node.func.attr, METHODS | own, shown(path, node))

    def test_is(self):
        for path, node in self.nodes(ast.Compare):
            for operator, right in zip(node.ops, node.comparators):
                if isinstance(operator, (ast.Is, ast.IsNot)):
                    self.assertIsInstance(right, ast.Constant, shown(path, node))

    def test_attributes_are_no_methods(self):
        for path, node in self.nodes(ast.ClassDef):
            methods = [child.name for child in node.body if isinstance(child, ast.FunctionDef)]
            stored = {child.attr for child in ast.walk(node)
                      if isinstance(child, ast.Attribute) and isinstance(child.ctx, ast.Store)}
            self.assertEqual(len(methods), len(set(methods)), shown(path, node))
            self.assertEqual(stored & set(methods), set(), shown(path, node))


if __name__ == "__main__":
    unittest.main()

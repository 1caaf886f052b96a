"""The package keeps to what LANGUAGE.md tells, as far as its syntax trees show it."""

import ast
import builtins
import re
import unittest
from pathlib import Path

PACKAGE = Path(__file__).resolve().parent.parent / "everyhalf"
LIBRARY = {
    "heapq": {"heappush", "heappop", "heapify", "heapreplace", "heappushpop"},
    "math": {"gcd", "lcm", "isqrt", "comb", "perm", "factorial"},
    "itertools": {
        "product", "combinations", "permutations", "chain", "accumulate", "pairwise", "islice", "zip_longest",
    },
    "collections": {"defaultdict", "deque"},
}
BUILTINS = set(
    "len range enumerate zip min max sum abs sorted reversed int str bool list tuple dict set isinstance ord repr any "
    "all divmod pow iter next map type super staticmethod classmethod property Exception ValueError TypeError KeyError "
    "IndexError LookupError ZeroDivisionError ArithmeticError OverflowError RuntimeError NotImplementedError "
    "AttributeError StopIteration NotImplemented".split()
)
METHODS = set(
    "append clear copy count endswith extend find get index insert isalnum isalpha isdigit islower isspace isupper "
    "items join keys ljust lower lstrip partition pop remove replace reverse rfind rjust rpartition rsplit rstrip "
    "setdefault split splitlines startswith strip update upper values zfill bit_length add discard".split()
)
BARRED = re.compile(
    r"\b(typing|typing_extensions|enum|Enum|Generic|Protocol|ABC|ABCMeta|namedtuple|NamedTuple|TypedDict|_wall\w*|"
    r"_WallAttr|register|mro|elements|open|input|law|exec|eval|globals|locals|vars|dir|id|compile|hash)\b|dataclass|"
    r"overload|contextmanager"
)
# What stands nowhere in the package; generator expressions do not, as Paper has an __eq__.
BARRED_NODES = (
    ast.GeneratorExp, ast.Div, ast.AsyncFunctionDef, ast.Global, ast.Import, ast.With, ast.Match,
    ast.AnnAssign, ast.Yield, ast.YieldFrom, ast.NamedExpr,
)
AT_TOP = (ast.FunctionDef, ast.ClassDef, ast.ImportFrom, ast.Assign, ast.Expr)
MAGIC = {"__init__", "__eq__", "__repr__", "__str__", "__len__", "__bool__"}


def nodes(tree, kinds):
    return [node for node in ast.walk(tree) if isinstance(node, kinds)]


class Language(unittest.TestCase):
    def setUp(self):
        self.files = {path.name: path.read_text(encoding="utf-8") for path in sorted(PACKAGE.glob("*.py"))}
        self.trees = {name: ast.parse(text) for name, text in self.files.items()}
        self.own = {
            node.name for tree in self.trees.values() for node in nodes(tree, (ast.FunctionDef, ast.ClassDef))
        }

    def test_there_is_nothing_but_plain_files(self):
        self.assertIn("__init__.py", self.files)
        for path in PACKAGE.iterdir():
            if path.name != "__pycache__":
                self.assertRegex(path.name, r"\A[a-z_0-9]+\.py\Z")

    def test_size_and_characters(self):
        for name, text in self.files.items():
            rows = text.split("\n")
            self.assertLessEqual(len(rows), 399, name)
            for at, row in enumerate(rows, 1):
                self.assertLessEqual(len(row), 120, (name, at))
                self.assertTrue(all(" " <= sign <= "~" for sign in row), (name, at))
        for name, tree in self.trees.items():
            for node in nodes(tree, ast.FunctionDef):
                self.assertLessEqual(node.end_lineno - node.lineno + 1, 40, (name, node.name))

    def test_imports(self):
        for name, tree in self.trees.items():
            for node in nodes(tree, ast.ImportFrom):
                words = [alias.name for alias in node.names]
                self.assertEqual(node.level, 0, name)
                self.assertTrue(all(alias.asname is None for alias in node.names), name)
                if node.module.startswith("everyhalf."):
                    home = self.trees[node.module.removeprefix("everyhalf.") + ".py"]
                    bound = {each.name for each in home.body if isinstance(each, (ast.FunctionDef, ast.ClassDef))}
                    bound |= {each.targets[0].id for each in home.body if isinstance(each, ast.Assign)}
                    self.assertLessEqual(set(words), bound, name)
                else:
                    self.assertLessEqual(set(words), LIBRARY[node.module], name)

    def test_module_level(self):
        for name, tree in self.trees.items():
            for node in tree.body:
                self.assertIsInstance(node, AT_TOP, (name, node.lineno))
            for node in nodes(tree, ast.ClassDef):
                self.assertIn(node, tree.body)

    def test_words_that_are_barred(self):
        for name, text in self.files.items():
            self.assertIsNone(BARRED.search(text), name)

    def test_syntax_that_is_barred(self):
        for name, tree in self.trees.items():
            for node in nodes(tree, BARRED_NODES):
                self.fail((name, type(node).__name__, getattr(node, "lineno", None)))
            for node in nodes(tree, ast.Constant):
                self.assertNotIsInstance(node.value, (float, complex, bytes), name)
            for node in nodes(tree, ast.FunctionDef):
                for mark in node.decorator_list:
                    self.assertIn(mark.id, ("staticmethod", "classmethod", "property"), name)
                if node.name.startswith("__"):
                    self.assertIn(node.name, MAGIC, name)

    def test_own_errors_alone_are_caught(self):
        errors = {node.name for node in nodes(self.trees["errors.py"], ast.ClassDef)}
        for name, tree in self.trees.items():
            for node in nodes(tree, ast.ExceptHandler):
                self.assertIsInstance(node.type, ast.Name, (name, node.lineno))
                self.assertIn(node.type.id, errors, (name, node.lineno))
            for node in nodes(tree, ast.Raise):
                if node.exc is not None:
                    self.assertIsInstance(node.exc, ast.Call, (name, node.lineno))
                    self.assertIn(node.exc.func.id, errors, (name, node.lineno))

    def test_names(self):
        for name, tree in self.trees.items():
            for node in nodes(tree, ast.Name):
                if hasattr(builtins, node.id):
                    self.assertIn(node.id, BUILTINS, (name, node.lineno))
                    self.assertIsInstance(node.ctx, ast.Load, (name, node.lineno))
            for node in nodes(tree, ast.arg):
                self.assertFalse(hasattr(builtins, node.arg), (name, node.lineno))
            for node in nodes(tree, ast.Call):
                if isinstance(node.func, ast.Attribute) and node.func.attr not in self.own:
                    self.assertIn(node.func.attr, METHODS, (name, node.lineno))


if __name__ == "__main__":
    unittest.main()

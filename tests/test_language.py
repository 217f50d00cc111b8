"""The package's files keep to the small part of Python that they are written in.

What can be seen in a file's tree is looked at here; the rest is for a reader.
"""

import ast
import builtins
import pathlib
import re
import unittest

PACKAGE = pathlib.Path(__file__).resolve().parent.parent / "provinceboard"
FILES = sorted(PACKAGE.glob("*.py"))

OWN_NAMES = """len range enumerate zip min max sum abs sorted reversed int str bool list tuple dict set frozenset
isinstance ord repr any all divmod Exception ValueError TypeError KeyError IndexError LookupError ZeroDivisionError
ArithmeticError OverflowError RuntimeError NotImplementedError StopIteration""".split()
METHODS = """append clear copy count endswith extend find get index insert isalnum isalpha isdigit islower isspace isupper
items join keys ljust lower lstrip partition pop remove replace reverse rfind rjust rpartition rsplit rstrip setdefault
split splitlines startswith strip update upper values zfill bit_length""".split()
BARRED_WORDS = re.compile(
    r"\b(type|typing|typing_extensions|enum|Enum|IntEnum|StrEnum|Flag|IntFlag|Generic|Protocol|ABC|ABCMeta|namedtuple"
    r"|NamedTuple|TypedDict|TYPE_CHECKING|abstractmethod)\b|dataclass|overload|contextmanager")
BARRED_NODES = (
    ast.With, ast.Match, ast.Delete, ast.Global, ast.Nonlocal, ast.Assert, ast.Yield, ast.YieldFrom, ast.Await,
    ast.AsyncFunctionDef, ast.AsyncFor, ast.AsyncWith, ast.SetComp, ast.DictComp, ast.GeneratorExp, ast.NamedExpr,
    ast.Starred, ast.Div, ast.Import, ast.AnnAssign, ast.Set)

WALKED = "zip enumerate reversed range items keys values".split()
WALKERS = "list tuple dict sorted sum any all enumerate zip".split()


def called(node):
    """The name that a call goes by, with what stands before its dot left out."""
    return node.func.id if isinstance(node.func, ast.Name) else getattr(node.func, "attr", None)


def trees():
    return [(path, ast.parse(path.read_text(encoding="ascii"))) for path in FILES]


def nodes(kind):
    return [(path.name, node) for path, tree in trees() for node in ast.walk(tree) if isinstance(node, kind)]


def draws(tree):
    return [node for node in ast.walk(tree) if isinstance(node, ast.ImportFrom)]


class Language(unittest.TestCase):
    def test_files(self):
        self.assertIn(PACKAGE / "__init__.py", FILES)
        for path in PACKAGE.iterdir():
            if path.name != "__pycache__":
                self.assertRegex(path.name, r"^(__init__|[a-z][a-z0-9_]*)\.py$")

    def test_signs_and_sizes(self):
        for path in FILES:
            rows = path.read_text(encoding="ascii").split("\n")
            self.assertLessEqual(len(rows), 400, path.name)
            for row in rows:
                self.assertRegex(row, r"^[ -~]{0,120}$", path.name)
                self.assertIsNone(BARRED_WORDS.search(row), (path.name, row))
        for name, node in nodes(ast.FunctionDef):
            self.assertLess(node.end_lineno - node.lineno, 40, (name, node.name))

    def test_imports(self):
        drawn = {}
        for path, tree in trees():
            own = drawn.setdefault("provinceboard." + path.stem, [])
            for node in draws(tree):
                self.assertEqual(node.level, 0)
                self.assertIn(node, tree.body)
                self.assertTrue((PACKAGE / (node.module.split(".")[1] + ".py")).exists(), node.module)
                self.assertRegex(node.module, r"^provinceboard\.[a-z]+$")
                own.append(node.module)
        while drawn:
            free = [module for module in drawn if not set(drawn[module]) & set(drawn)]
            self.assertTrue(free, f"files that draw from one another: {sorted(drawn)}")
            for module in free:
                del drawn[module]

    def test_statements_and_expressions(self):
        for name, node in nodes(BARRED_NODES):
            self.fail(f"{name}:{node.lineno} {type(node).__name__}" if hasattr(node, "lineno") else f"{name} /")
        for name, node in nodes((ast.For, ast.While)):
            self.assertEqual(node.orelse, [], name)
        for name, node in nodes(ast.Assign):
            self.assertEqual(len(node.targets), 1, name)
        for name, node in nodes(ast.ListComp):
            self.assertEqual(len(node.generators), 1, name)
        for name, node in nodes((ast.FunctionDef, ast.ClassDef)):
            self.assertEqual(node.decorator_list, [], name)
        for name, node in nodes(ast.Constant):
            self.assertIn(type(node.value), (int, str, bool, type(None)), (name, node.lineno))
            self.assertNotIn("%", str(node.value), (name, node.lineno))

    def test_walked_at_once(self):
        for path, tree in trees():
            walked = [node.iter for node in ast.walk(tree) if isinstance(node, (ast.For, ast.comprehension))]
            for node in ast.walk(tree):
                if isinstance(node, ast.Call) and isinstance(node.func, ast.Name) and node.func.id in WALKERS and node.args:
                    walked.append(node.args[0])
            for node in ast.walk(tree):
                if isinstance(node, ast.Call) and called(node) in WALKED:
                    self.assertIn(node, walked, (path.name, node.lineno))

    def test_sets_and_is(self):
        for path, tree in trees():
            asked = [node.args[0] for node in ast.walk(tree) if isinstance(node, ast.Call) and node.args
                     and called(node) in ("sorted", "len") and not node.keywords]
            for node in ast.walk(tree):
                if isinstance(node, ast.Call) and called(node) in ("set", "frozenset"):
                    self.assertIn(node, asked, (path.name, node.lineno))
                if isinstance(node, ast.Compare) and isinstance(node.ops[0], (ast.Is, ast.IsNot)):
                    self.assertIsInstance(node.comparators[0], ast.Constant, (path.name, node.lineno))

    def test_tops(self):
        for path, tree in trees():
            for place, node in enumerate(tree.body):
                if place == 0:
                    self.assertIsInstance(ast.get_docstring(tree), str, path.name)
                    continue
                self.assertIsInstance(node, (ast.ImportFrom, ast.FunctionDef, ast.ClassDef, ast.Assign), path.name)

    def test_names(self):
        methods = {node.name for _, node in nodes(ast.FunctionDef)}
        values = {node.attr for _, node in nodes(ast.Attribute) if isinstance(node.ctx, ast.Store)}
        own_methods = {part.name for _, node in nodes(ast.ClassDef) for part in node.body}
        self.assertEqual(values & own_methods, set())
        for path, tree in trees():
            bound = {node.id for node in ast.walk(tree) if isinstance(node, ast.Name) and isinstance(node.ctx, ast.Store)}
            bound |= {node.arg for node in ast.walk(tree) if isinstance(node, ast.arg)}
            bound |= {node.name for node in ast.walk(tree) if isinstance(node, (ast.FunctionDef, ast.ClassDef))}
            self.assertEqual({name for name in bound if name in dir(builtins)} - {"__init__"}, set(), path.name)
            self.assertEqual({name for name in bound if name.startswith("_")} - {"__init__"}, set(), path.name)
            drawn = {part.name for node in draws(tree) for part in node.names}
            self.assertEqual(bound & drawn - own_methods, set(), path.name)
            for node in ast.walk(tree):
                if isinstance(node, ast.Name):
                    self.assertIn(node.id, bound | drawn | set(OWN_NAMES), (path.name, node.lineno))
                if isinstance(node, ast.Attribute):
                    self.assertIn(node.attr, methods | values | set(METHODS), (path.name, node.lineno))


if __name__ == "__main__":
    unittest.main()

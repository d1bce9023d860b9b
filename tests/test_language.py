"""The package's own files keep to the small part of Python that the program is written in."""

import ast
import builtins
import pathlib
import re
import unittest

PACKAGE = pathlib.Path(__file__).resolve().parent.parent / "stepjudge"
FILES = sorted(path for path in PACKAGE.rglob("*") if "__pycache__" not in path.parts and path.is_file())
OWN_NAMES = """len range enumerate zip min max sum abs sorted reversed int str bool list tuple dict set frozenset
isinstance ord repr any all divmod Exception ValueError TypeError KeyError IndexError LookupError
ZeroDivisionError ArithmeticError OverflowError RuntimeError NotImplementedError AttributeError
StopIteration""".split()
METHODS = """append clear copy count endswith extend find get index insert isalnum isalpha isdigit islower isspace
isupper items join keys ljust lower lstrip partition pop remove replace reverse rfind rjust rpartition rsplit
rstrip setdefault split splitlines startswith strip update upper values zfill bit_length""".split()
FORBIDDEN_WORDS = """type typing typing_extensions enum Enum IntEnum StrEnum Flag IntFlag Generic Protocol ABC
ABCMeta namedtuple NamedTuple TypedDict TYPE_CHECKING abstractmethod""".split()
KEYWORDS = {"sorted": ("key", "reverse"), "min": ("key", "default"), "max": ("key", "default"), "sum": ("start",),
            "enumerate": ("start",), "zip": ("strict",)}
FORBIDDEN_NODES = (
    ast.Import, ast.With, ast.Match, ast.Delete, ast.Global, ast.Nonlocal, ast.Assert, ast.Yield, ast.YieldFrom,
    ast.AsyncFunctionDef, ast.AsyncFor, ast.AsyncWith, ast.Await, ast.SetComp, ast.DictComp, ast.GeneratorExp,
    ast.NamedExpr, ast.Starred, ast.Div, ast.AnnAssign,
)


def nodes_of(path):
    return list(ast.walk(ast.parse(path.read_text(encoding="utf-8"))))


def own_methods():
    found = []
    for path in FILES:
        for node in nodes_of(path):
            if isinstance(node, ast.ClassDef):
                found.extend(part.name for part in node.body if isinstance(part, ast.FunctionDef))
    return found


class LanguageTest(unittest.TestCase):
    def test_files(self):
        self.assertIn(PACKAGE / "__init__.py", FILES)
        for path in FILES:
            self.assertRegex(path.name, "^[a-z0-9_]+[.]py$")

    def test_text(self):
        for path in FILES:
            text = path.read_text(encoding="utf-8")
            rows = text.split("\n")
            self.assertLessEqual(len(rows), 400, path)
            for number, row in enumerate(rows, start=1):
                self.assertRegex(row, "^[ -~]{0,120}$", f"{path}:{number}")
            for word in re.findall("[A-Za-z0-9_]+", text):
                self.assertNotIn(word, FORBIDDEN_WORDS, path)

    def test_nodes(self):
        for path in FILES:
            for node in nodes_of(path):
                where = f"{path}:{getattr(node, 'lineno', 0)}"
                self.assertNotIsInstance(node, FORBIDDEN_NODES, where)
                if isinstance(node, ast.Constant):
                    self.assertNotIsInstance(node.value, (float, bytes), where)
                if isinstance(node, ast.ImportFrom):
                    self.assertRegex(node.module, "^stepjudge[.][a-z]+$", where)
                    self.assertEqual(node.level, 0, where)
                if isinstance(node, ast.FunctionDef):
                    self.assertLessEqual(node.end_lineno - node.lineno + 1, 40, where)
                    self.assertEqual(node.decorator_list, [], where)
                if isinstance(node, ast.Assign):
                    self.assertEqual(len(node.targets), 1, where)
                if isinstance(node, (ast.For, ast.While)):
                    self.assertEqual(node.orelse, [], where)

    def test_expressions(self):
        for path in FILES:
            for node in nodes_of(path):
                where = f"{path}:{getattr(node, 'lineno', 0)}"
                if isinstance(node, ast.ListComp):
                    self.assertEqual(len(node.generators), 1, where)
                    self.assertLessEqual(len(node.generators[0].ifs), 1, where)
                if isinstance(node, ast.FormattedValue):
                    self.assertIsInstance(node.value, ast.Name, where)
                    self.assertIs(node.format_spec, None, where)
                if isinstance(node, ast.Constant) and isinstance(node.value, str):
                    self.assertNotIn("%", node.value, where)
                if isinstance(node, ast.Compare) and any(isinstance(sign, (ast.Is, ast.IsNot)) for sign in node.ops):
                    self.assertIsInstance(node.comparators[0], ast.Constant, where)
                    self.assertIn(node.comparators[0].value, (None, True, False), where)
                if isinstance(node, ast.BinOp) and isinstance(node.op, ast.Pow):
                    self.assertIn(node.right.value, range(65), where)
                if isinstance(node, ast.Assign):
                    self.assertNotIsInstance(node.targets[0], (ast.Tuple, ast.List), where)

    def test_keywords(self):
        for path in FILES:
            for node in nodes_of(path):
                if isinstance(node, ast.Call) and node.keywords:
                    where = f"{path}:{node.lineno}"
                    self.assertIsInstance(node.func, ast.Name, where)
                    words = [keyword.arg for keyword in node.keywords]
                    self.assertLessEqual(set(words), set(KEYWORDS.get(node.func.id, ())), where)

    def test_classes(self):
        methods = own_methods()
        for path in FILES:
            for node in nodes_of(path):
                where = f"{path}:{getattr(node, 'lineno', 0)}"
                if isinstance(node, ast.ClassDef):
                    self.assertLessEqual(len(node.bases), 1, where)
                    self.assertEqual(node.decorator_list, [], where)
                    for part in node.body:
                        self.assertIsInstance(part, (ast.FunctionDef, ast.Pass), where)
                if isinstance(node, ast.Attribute) and isinstance(node.ctx, ast.Store):
                    self.assertNotIn(node.attr, methods + METHODS, where)
                    self.assertFalse(any(hasattr(kind, node.attr) for kind in (str, int, list, dict, set, bytes)), where)

    def test_names(self):
        for path in FILES:
            for node in nodes_of(path):
                if isinstance(node, ast.Name):
                    where = f"{path}:{node.lineno}"
                    self.assertFalse(node.id.startswith("_"), where)
                    if hasattr(builtins, node.id):
                        self.assertIn(node.id, OWN_NAMES, where)
                        self.assertIsInstance(node.ctx, ast.Load, where)
                if isinstance(node, ast.arg):
                    self.assertFalse(hasattr(builtins, node.arg), f"{path}:{node.lineno}")

    def test_bound_names(self):
        for path in FILES:
            nodes = nodes_of(path)
            imported = [name.name for node in nodes if isinstance(node, ast.ImportFrom) for name in node.names]
            classes = [node.name for node in nodes if isinstance(node, ast.ClassDef)]
            bound = [node.id for node in nodes if isinstance(node, ast.Name) and isinstance(node.ctx, ast.Store)]
            bound.extend(node.arg for node in nodes if isinstance(node, ast.arg))
            bound.extend(node.name for node in nodes if isinstance(node, ast.FunctionDef))
            self.assertEqual(sorted(set(bound) & set(imported + classes)), [], path)

    def test_tops(self):
        for path in FILES:
            bound = []
            for node in ast.parse(path.read_text(encoding="utf-8")).body:
                if isinstance(node, ast.Assign):
                    ast.literal_eval(node.value)
                    bound.append(node.targets[0].id)
                elif isinstance(node, (ast.FunctionDef, ast.ClassDef)):
                    bound.append(node.name)
                elif not isinstance(node, ast.ImportFrom):
                    self.assertIsInstance(node.value, ast.Constant, path)
            self.assertEqual(len(set(bound)), len(bound), path)

    def test_imports_go_one_way(self):
        drawn = {}
        for path in FILES:
            modules = [node.module for node in nodes_of(path) if isinstance(node, ast.ImportFrom)]
            drawn["stepjudge." + path.stem] = modules
        # A file whose imports are all done may go; where two draw on one another, neither ever may.
        while drawn:
            done = [name for name, modules in drawn.items() if not set(modules) & set(drawn)]
            self.assertNotEqual(done, [], drawn)
            for name in done:
                del drawn[name]

    def test_methods(self):
        allowed = METHODS + own_methods()
        for path in FILES:
            for node in nodes_of(path):
                if isinstance(node, ast.Call) and isinstance(node.func, ast.Attribute):
                    self.assertIn(node.func.attr, allowed, f"{path}:{node.lineno}")


if __name__ == "__main__":
    unittest.main()

"""The package's files against the rules of LANGUAGE.md that can be seen in a file's text."""

import ast
import builtins
import pathlib
import re
import unittest

PACKAGE = pathlib.Path(__file__).resolve().parent.parent / "battenlath"
FILES = sorted(PACKAGE.rglob("*.py"))

STATEMENTS = (
    ast.Assign, ast.AugAssign, ast.If, ast.While, ast.For, ast.Return, ast.Break, ast.Continue, ast.Pass, ast.Raise,
    ast.Try, ast.Expr, ast.FunctionDef, ast.ClassDef, ast.ImportFrom,
)
NOT_USED = (
    ast.Lambda, ast.SetComp, ast.DictComp, ast.GeneratorExp, ast.NamedExpr, ast.Starred, ast.Div, ast.Set, ast.Yield,
    ast.Await, ast.JoinedStr, ast.AnnAssign, ast.Is, ast.IsNot,
)
OWN_NAMES = set(
    "len range enumerate zip min max sum abs sorted reversed int str bool list tuple dict isinstance ord repr any all "
    "divmod ValueError KeyError IndexError LookupError ZeroDivisionError Exception".split()
)
METHODS = set(
    "append clear copy count endswith extend find get index insert isalnum isalpha isdigit islower isspace isupper "
    "items join keys ljust lower lstrip partition pop remove replace reverse rfind rjust rpartition rsplit rstrip "
    "setdefault split splitlines startswith strip update upper values zfill bit_length".split()
)
WORDS = (
    "type typing typing_extensions enum Enum IntEnum StrEnum Flag IntFlag Generic Protocol ABC ABCMeta namedtuple "
    "NamedTuple TypedDict TYPE_CHECKING abstractmethod register mro elements open input version_info".split()
)
WITHIN_WORDS = ("dataclass", "overload", "contextmanager")
PYTHONS_OWN = (str, int, list, dict, set, bytes, tuple)


def is_none_beside(node):
    return isinstance(node, ast.Compare) and all(
        isinstance(one, ast.Constant) and (one.value is None or one.value is True or one.value is False)
        for one in node.comparators
    )


def nodes(kind):
    for file in FILES:
        for node in ast.walk(ast.parse(file.read_text())):
            if isinstance(node, kind):
                yield file, node


class Language(unittest.TestCase):
    def test_files(self):
        self.assertIn(PACKAGE / "desk.py", FILES)
        for path in PACKAGE.rglob("*"):
            if "__pycache__" not in path.parts:
                self.assertRegex(path.name, r"^([a-z][a-z0-9_]*|__init__)\.py$")
                self.assertNotIn(path.stem, dir(builtins))

    def test_signs_and_sizes(self):
        for file in FILES:
            text = file.read_bytes().decode("ascii")
            self.assertRegex(text, r"\A[ -~\n]*\Z")
            self.assertLessEqual(len(text.splitlines()), 400)
            self.assertLessEqual(max(len(line) for line in text.splitlines()), 120)
        for file, node in nodes(ast.FunctionDef):
            self.assertLessEqual(node.end_lineno - node.lineno + 1, 40, node.name)

    def test_words(self):
        for file in FILES:
            text = file.read_text()
            for word in re.findall(r"\w+", text):
                self.assertNotIn(word, WORDS, file)
            for part in WITHIN_WORDS:
                self.assertNotIn(part, text, file)

    def test_statements_and_values(self):
        for file, node in nodes(ast.stmt):
            self.assertIsInstance(node, STATEMENTS, (file, node.lineno))
            if isinstance(node, ast.Assign):
                self.assertEqual(len(node.targets), 1)
                self.assertNotIsInstance(node.targets[0], (ast.Tuple, ast.List))
            if isinstance(node, (ast.While, ast.For)):
                self.assertEqual(node.orelse, [])
            if isinstance(node, ast.Expr):
                self.assertIsInstance(node.value, (ast.Call, ast.Constant))
        for file, node in nodes(ast.Compare):
            if any(isinstance(op, (ast.Is, ast.IsNot)) for op in node.ops):
                self.assertTrue(is_none_beside(node), (file, node.lineno))
        for file, node in nodes(tuple(kind for kind in NOT_USED if kind not in (ast.Is, ast.IsNot))):
            self.fail((file, ast.dump(node)))
        for file, node in nodes(ast.Constant):
            self.assertIn(node.value.__class__, (int, str, bool, None.__class__))
        for file, node in nodes(ast.BinOp):
            if isinstance(node.op, ast.Pow):
                self.assertIsInstance(node.right, ast.Constant)

    def test_imports(self):
        for file, node in nodes(ast.ImportFrom):
            self.assertEqual(node.level, 0)
            self.assertRegex(node.module, r"^battenlath\.[a-z]+$")
            self.assertIn(node.module.split(".")[1] + ".py", [one.name for one in FILES])
            for alias in node.names:
                self.assertNotEqual(alias.name, "*")
                self.assertIsNone(alias.asname)

    def test_names(self):
        for file, node in nodes(ast.Name):
            self.assertRegex(node.id, r"^[A-Za-z][A-Za-z0-9_]*$")
            if node.id in dir(builtins):
                self.assertIn(node.id, OWN_NAMES)
                self.assertIsInstance(node.ctx, ast.Load)
        for file, node in nodes(ast.arg):
            self.assertRegex(node.arg, r"^[A-Za-z][A-Za-z0-9_]*$")
            self.assertNotIn(node.arg, dir(builtins))
            self.assertIsNone(node.annotation)
        for file, node in nodes(ast.FunctionDef):
            self.assertEqual(node.decorator_list, [])
            self.assertTrue(node.name == "__init__" or re.match(r"^[A-Za-z]", node.name))

    def test_methods_and_values(self):
        methods = set()
        values = set()
        for file, node in nodes(ast.ClassDef):
            methods.update(one.name for one in node.body if isinstance(one, ast.FunctionDef))
        for file, node in nodes(ast.Attribute):
            if isinstance(node.ctx, ast.Store):
                values.add(node.attr)
        self.assertEqual(methods & values, set())
        for name in (methods | values) - {"__init__"}:
            self.assertFalse(any(hasattr(kind, name) for kind in PYTHONS_OWN), name)
        for file, node in nodes(ast.Attribute):
            self.assertIn(node.attr, methods | values | METHODS)

    def test_each_name_once_at_the_top(self):
        for file in FILES:
            bound = []
            for node in ast.parse(file.read_text()).body:
                if isinstance(node, (ast.FunctionDef, ast.ClassDef)):
                    bound.append(node.name)
                elif isinstance(node, ast.Assign):
                    bound.append(node.targets[0].id)
                elif isinstance(node, ast.ImportFrom):
                    bound.extend(alias.name for alias in node.names)
            self.assertEqual(len(bound), len(set(bound)), file)
            inner = [node.id for node in ast.walk(ast.parse(file.read_text()))
                     if isinstance(node, ast.Name) and isinstance(node.ctx, ast.Store)]
            for name in set(inner):
                self.assertLessEqual(bound.count(name), inner.count(name), (file, name))
                if name in bound:
                    self.assertEqual(inner.count(name), 1, (file, name))


if __name__ == "__main__":
    unittest.main()

"""The package keeps to the small part of Python that it is written in: the rules that can be seen in a file."""

import ast
import re
import unittest
from pathlib import Path

FOLDER = Path(__file__).resolve().parent.parent / "darkboard"
FILES = sorted(path for path in FOLDER.rglob("*") if path.is_file() and "__pycache__" not in path.parts)

STATEMENTS = (ast.Assign, ast.AugAssign, ast.If, ast.While, ast.For, ast.Return, ast.Break, ast.Continue, ast.Pass,
              ast.Raise, ast.Try, ast.Expr, ast.FunctionDef, ast.ClassDef, ast.ImportFrom)
EXPRESSIONS = (ast.Constant, ast.Name, ast.List, ast.Tuple, ast.Dict, ast.Set, ast.BinOp, ast.UnaryOp, ast.BoolOp,
               ast.Compare, ast.IfExp, ast.Call, ast.Attribute, ast.Subscript, ast.Slice, ast.ListComp, ast.JoinedStr,
               ast.FormattedValue, ast.Lambda)
OUT = (ast.Div, ast.MatMult, ast.Starred, ast.Is, ast.IsNot)

BUILT_IN = set("""len range enumerate zip min max sum abs sorted reversed int str bool list tuple dict set frozenset
    isinstance ord repr any all divmod Exception ValueError TypeError KeyError IndexError LookupError
    ZeroDivisionError ArithmeticError OverflowError RuntimeError NotImplementedError""".split())
METHODS = set("""append clear copy count endswith extend find get index insert isalnum isalpha isdigit islower isspace
    isupper items join keys ljust lower lstrip partition pop remove replace reverse rfind rjust rpartition rsplit rstrip
    setdefault split splitlines startswith strip update upper values zfill bit_length""".split())
WORDS = """type typing typing_extensions enum Enum IntEnum StrEnum Flag IntFlag Generic Protocol ABC ABCMeta namedtuple
    NamedTuple TypedDict TYPE_CHECKING abstractmethod""".split()
NOT_NAMES = set("register mro elements open input version_info with_traceback add_note format format_map".split())


def tree_of(path):
    return ast.parse(path.read_text())


def bound_names(tree):
    names = set()
    for node in ast.walk(tree):
        if isinstance(node, ast.Name) and isinstance(node.ctx, ast.Store):
            names.add(node.id)
        elif isinstance(node, (ast.FunctionDef, ast.ClassDef)):
            names.add(node.name)
        elif isinstance(node, ast.arg):
            names.add(node.arg)
        elif isinstance(node, ast.alias):
            names.add(node.asname or node.name)
    return names


def is_none_test(node):
    return all(isinstance(value, ast.Constant) and value.value in (None, True, False) for value in node.comparators)


class Files(unittest.TestCase):
    def test_names(self):
        for path in FILES:
            self.assertRegex(str(path.relative_to(FOLDER)), r"^([a-z0-9_]+/)*[a-z0-9_]+\.py$")
        self.assertIn(FOLDER / "__init__.py", FILES)

    def test_signs_and_sizes(self):
        for path in FILES:
            rows = path.read_bytes().decode("ascii").split("\n")
            self.assertLessEqual(len(rows), 400, path)
            for number, row in enumerate(rows, 1):
                self.assertRegex(row, r"^[ -~]{0,120}$", f"{path}:{number}")

    def test_words_that_stand_nowhere(self):
        for path in FILES:
            text = path.read_text()
            self.assertIsNone(re.search(r"\b(" + "|".join(WORDS) + r")\b", text), path)
            self.assertIsNone(re.search("dataclass|overload|contextmanager", text), path)


class Code(unittest.TestCase):
    def test_statements_and_expressions(self):
        for path in FILES:
            for node in ast.walk(tree_of(path)):
                place = f"{path}:{getattr(node, 'lineno', '')} {ast.dump(node)[:80]}"
                if isinstance(node, ast.stmt):
                    self.assertIsInstance(node, STATEMENTS, place)
                if isinstance(node, ast.expr):
                    self.assertIsInstance(node, EXPRESSIONS, place)
                if isinstance(node, ast.Constant):
                    self.assertIsInstance(node.value, (int, str, type(None)), place)
                if isinstance(node, ast.Compare) and any(isinstance(op, (ast.Is, ast.IsNot)) for op in node.ops):
                    self.assertTrue(is_none_test(node), place)
                elif not isinstance(node, (ast.Is, ast.IsNot)):
                    self.assertNotIsInstance(node, OUT, place)
                if isinstance(node, (ast.For, ast.While)):
                    self.assertEqual(node.orelse, [], place)
                if isinstance(node, ast.Assign):
                    self.assertEqual(len(node.targets), 1, place)

    def test_functions(self):
        for path in FILES:
            for node in ast.walk(tree_of(path)):
                if isinstance(node, ast.FunctionDef):
                    place = f"{path}:{node.lineno}"
                    self.assertLessEqual(node.end_lineno - node.lineno + 1, 40, place)
                    self.assertEqual(node.decorator_list, [], place)
                    self.assertIsNone(node.args.vararg or node.args.kwarg, place)
                    self.assertEqual(node.args.kwonlyargs + node.args.posonlyargs, [], place)

    def test_names(self):
        for path in FILES:
            tree = tree_of(path)
            bound = bound_names(tree)
            for name in bound - {"__init__"}:
                self.assertRegex(name, r"^[A-Za-z][A-Za-z0-9_]*$", path)
                self.assertNotIn(name, BUILT_IN | NOT_NAMES, path)
            for node in ast.walk(tree):
                if isinstance(node, ast.Name):
                    self.assertIn(node.id, bound | BUILT_IN, f"{path}:{node.lineno}")
                if isinstance(node, ast.Attribute):
                    self.assertNotIn(node.attr, NOT_NAMES, f"{path}:{node.lineno}")

    def test_methods(self):
        own = {node.name for path in FILES for node in ast.walk(tree_of(path)) if isinstance(node, ast.FunctionDef)}
        for path in FILES:
            for node in ast.walk(tree_of(path)):
                if isinstance(node, ast.Call) and isinstance(node.func, ast.Attribute):
                    self.assertIn(node.func.attr, own | METHODS, f"{path}:{node.lineno}")

    def test_imports(self):
        for path in FILES:
            for node in ast.walk(tree_of(path)):
                if isinstance(node, ast.ImportFrom):
                    self.assertEqual(node.level, 0, path)
                    self.assertRegex(node.module, r"^darkboard\.[a-z_]+$", path)
                    defined = bound_names(tree_of(FOLDER / (node.module.split(".")[1] + ".py")))
                    self.assertTrue({alias.name for alias in node.names} <= defined, path)

    def test_no_name_is_bound_twice_at_the_top(self):
        for path in FILES:
            names = []
            for node in tree_of(path).body:
                if isinstance(node, ast.Assign):
                    names.append(node.targets[0].id)
                elif isinstance(node, (ast.FunctionDef, ast.ClassDef)):
                    names.append(node.name)
                elif isinstance(node, ast.ImportFrom):
                    names += [alias.name for alias in node.names]
            self.assertEqual(len(names), len(set(names)), path)


if __name__ == "__main__":
    unittest.main()

"""The package keeps to the small part of Python that it is written in: the rules that can be seen in a file."""

import ast
import builtins
import re
import unittest
from pathlib import Path

FOLDER = Path(__file__).resolve().parent.parent / "darkboard"
FILES = sorted(path for path in FOLDER.rglob("*") if path.is_file() and "__pycache__" not in path.parts)

STATEMENTS = (ast.Assign, ast.AugAssign, ast.If, ast.While, ast.For, ast.Return, ast.Break, ast.Continue, ast.Pass,
              ast.Raise, ast.Try, ast.Expr, ast.FunctionDef, ast.ClassDef, ast.ImportFrom)
EXPRESSIONS = (ast.Constant, ast.Name, ast.List, ast.Tuple, ast.Dict, ast.Set, ast.BinOp, ast.UnaryOp, ast.BoolOp,
               ast.Compare, ast.IfExp, ast.Call, ast.Attribute, ast.Subscript, ast.Slice, ast.ListComp, ast.JoinedStr,
               ast.FormattedValue, ast.Lambda)
OUT = (ast.Div, ast.MatMult, ast.Starred, ast.Is, ast.IsNot)

BUILT_IN = set("""len range enumerate zip min max sum abs sorted reversed int str bool list tuple dict set frozenset
    isinstance ord repr any all divmod Exception ValueError TypeError KeyError IndexError LookupError
    ZeroDivisionError ArithmeticError OverflowError RuntimeError NotImplementedError""".split())
METHODS = set("""append clear copy count endswith extend find get index insert isalnum isalpha isdigit islower isspace
    isupper items join keys ljust lower lstrip partition pop remove replace reverse rfind rjust rpartition rsplit rstrip
    setdefault split splitlines startswith strip update upper values zfill bit_length""".split())
WORDS = """type typing typing_extensions enum Enum IntEnum StrEnum Flag IntFlag Generic Protocol ABC ABCMeta namedtuple
    NamedTuple TypedDict TYPE_CHECKING abstractmethod""".split()
NOT_NAMES = set("register mro elements open input version_info with_traceback add_note format format_map".split())

WALKED_AT_ONCE = set("zip enumerate reversed range items keys values".split())
WALKERS = set("list tuple dict sorted sum any all enumerate zip min max".split())
KEYWORDS = {"sorted": {"key", "reverse"}, "min": {"key", "default"}, "max": {"key", "default"}, "sum": {"start"},
            "enumerate": {"start"}, "zip": {"strict"}}
FREE_VALUES = set("count index title find get join lower upper split strip copy add".split())
TAKEN_VALUES = {name for kind in (str, int, list, dict, set, bytes) for name in dir(kind)} - FREE_VALUES


def tree_of(path):
    return ast.parse(path.read_text())


def bound_names(tree):
    names = set()
    for node in ast.walk(tree):
        if isinstance(node, ast.Name) and isinstance(node.ctx, ast.Store):
            names.add(node.id)
        elif isinstance(node, (ast.FunctionDef, ast.ClassDef)):
            names.add(node.name)
        elif isinstance(node, ast.arg):
            names.add(node.arg)
        elif isinstance(node, ast.alias):
            names.add(node.asname or node.name)
    return names


def called_name(node):
    if not isinstance(node, ast.Call):
        return None
    return node.func.attr if isinstance(node.func, ast.Attribute) else getattr(node.func, "id", None)


def is_none_test(node):
    return all(isinstance(value, ast.Constant) and value.value in (None, True, False) for value in node.comparators)


class Files(unittest.TestCase):
    def test_names(self):
        for path in FILES:
            self.assertRegex(str(path.relative_to(FOLDER)), r"^([a-z0-9_]+/)*[a-z0-9_]+\.py$")
        self.assertIn(FOLDER / "__init__.py", FILES)

    def test_signs_and_sizes(self):
        for path in FILES:
            rows = path.read_bytes().decode("ascii").split("\n")
            self.assertLessEqual(len(rows), 400, path)
            for number, row in enumerate(rows, 1):
                self.assertRegex(row, r"^[ -~]{0,120}$", f"{path}:{number}")

    def test_words_that_stand_nowhere(self):
        for path in FILES:
            text = path.read_text()
            self.assertIsNone(re.search(r"\b(" + "|".join(WORDS) + r")\b", text), path)
            self.assertIsNone(re.search("dataclass|overload|contextmanager", text), path)


class Code(unittest.TestCase):
    def test_statements_and_expressions(self):
        for path in FILES:
            for node in ast.walk(tree_of(path)):
                place = f"{path}:{getattr(node, 'lineno', '')} {ast.dump(node)[:80]}"
                if isinstance(node, ast.stmt):
                    self.assertIsInstance(node, STATEMENTS, place)
                if isinstance(node, ast.expr):
                    self.assertIsInstance(node, EXPRESSIONS, place)
                if isinstance(node, ast.Constant):
                    self.assertIsInstance(node.value, (int, str, type(None)), place)
                if isinstance(node, ast.Compare) and any(isinstance(op, (ast.Is, ast.IsNot)) for op in node.ops):
                    self.assertTrue(is_none_test(node), place)
                elif not isinstance(node, (ast.Is, ast.IsNot)):
                    self.assertNotIsInstance(node, OUT, place)
                if isinstance(node, (ast.For, ast.While)):
                    self.assertEqual(node.orelse, [], place)
                if isinstance(node, ast.Assign):
                    self.assertEqual(len(node.targets), 1, place)

    def test_functions(self):
        for path in FILES:
            for node in ast.walk(tree_of(path)):
                if isinstance(node, ast.FunctionDef):
                    place = f"{path}:{node.lineno}"
                    self.assertLessEqual(node.end_lineno - node.lineno + 1, 40, place)
                    self.assertEqual(node.decorator_list, [], place)
                    self.assertIsNone(node.args.vararg or node.args.kwarg, place)
                    self.assertEqual(node.args.kwonlyargs + node.args.posonlyargs, [], place)

    def test_names(self):
        for path in FILES:
            tree = tree_of(path)
            bound = bound_names(tree)
            for name in bound - {"__init__"}:
                self.assertRegex(name, r"^[A-Za-z][A-Za-z0-9_]*$", path)
                self.assertNotIn(name, BUILT_IN | NOT_NAMES, path)
            for node in ast.walk(tree):
                if isinstance(node, ast.Name):
                    self.assertIn(node.id, bound | BUILT_IN, f"{path}:{node.lineno}")
                if isinstance(node, ast.Attribute):
                    self.assertNotIn(node.attr, NOT_NAMES, f"{path}:{node.lineno}")

    def test_methods(self):
        own = {node.name for path in FILES for node in ast.walk(tree_of(path)) if isinstance(node, ast.FunctionDef)}
        for path in FILES:
            for node in ast.walk(tree_of(path)):
                if isinstance(node, ast.Call) and isinstance(node.func, ast.Attribute):
                    self.assertIn(node.func.attr, own | METHODS, f"{path}:{node.lineno}")

    def test_imports(self):
        for path in FILES:
            for node in ast.walk(tree_of(path)):
                if isinstance(node, ast.ImportFrom):
                    self.assertEqual(node.level, 0, path)
                    self.assertRegex(node.module, r"^darkboard\.[a-z_]+$", path)
                    defined = bound_names(tree_of(FOLDER / (node.module.split(".")[1] + ".py")))
                    self.assertTrue({alias.name for alias in node.names} <= defined, path)

    def test_the_top_of_a_file(self):
        for path in FILES:
            for node in tree_of(path).body:
                kinds = (ast.Assign, ast.FunctionDef, ast.ClassDef, ast.ImportFrom, ast.Expr)
                self.assertIsInstance(node, kinds, f"{path}:{node.lineno}")
                if isinstance(node, ast.Assign):
                    ast.literal_eval(node.value)

    def test_classes(self):
        values, methods = set(), set()
        for path in FILES:
            tree = tree_of(path)
            for node in ast.walk(tree):
                if isinstance(node, ast.Attribute) and isinstance(node.ctx, ast.Store):
                    values.add(node.attr)
                if isinstance(node, ast.ClassDef):
                    self.assertIn(node, tree.body, path)
                    self.assertEqual(node.decorator_list, [], path)
                    for part in node.body:
                        self.assertIsInstance(part, (ast.FunctionDef, ast.Expr, ast.Pass), f"{path}:{part.lineno}")
                    methods |= {part.name for part in node.body if isinstance(part, ast.FunctionDef)}
        self.assertEqual(values & (methods | TAKEN_VALUES), set())

    def test_nothing_is_annotated(self):
        for path in FILES:
            for node in ast.walk(tree_of(path)):
                annotation = getattr(node, "annotation", None) or getattr(node, "returns", None)
                self.assertIsNone(annotation, f"{path}:{getattr(node, 'lineno', '')}")

    def test_comprehensions_and_powers(self):
        for path in FILES:
            for node in ast.walk(tree_of(path)):
                if isinstance(node, ast.ListComp):
                    self.assertEqual(len(node.generators), 1, f"{path}:{node.lineno}")
                    self.assertLessEqual(len(node.generators[0].ifs), 1, f"{path}:{node.lineno}")
                if isinstance(node, ast.BinOp):
                    self.assertNotIsInstance(node.op, ast.Pow, f"{path}:{node.lineno}")

    def test_keywords(self):
        for path in FILES:
            for node in ast.walk(tree_of(path)):
                if isinstance(node, ast.Call):
                    allowed = KEYWORDS.get(called_name(node), set())
                    self.assertLessEqual({word.arg for word in node.keywords}, allowed, f"{path}:{node.lineno}")

    def test_walked_at_once(self):
        for path in FILES:
            walked = set()
            for node in ast.walk(tree_of(path)):
                if isinstance(node, (ast.For, ast.comprehension)):
                    walked.add(ast.dump(node.iter, include_attributes=True))
                if called_name(node) in WALKERS and node.args:
                    walked.add(ast.dump(node.args[0], include_attributes=True))
            for node in ast.walk(tree_of(path)):
                if called_name(node) in WALKED_AT_ONCE:
                    self.assertIn(ast.dump(node, include_attributes=True), walked, f"{path}:{node.lineno}")

    def test_no_local_is_called_like_an_import_a_class_or_a_name_of_python(self):
        for path in FILES:
            tree = tree_of(path)
            taken = set(dir(builtins))
            for node in tree.body:
                if isinstance(node, ast.ImportFrom):
                    taken |= {alias.name for alias in node.names}
                if isinstance(node, ast.ClassDef):
                    taken.add(node.name)
            for node in ast.walk(tree):
                if isinstance(node, ast.arg):
                    self.assertNotIn(node.arg, taken, f"{path}:{node.lineno}")
                if isinstance(node, ast.Name) and isinstance(node.ctx, ast.Store):
                    self.assertNotIn(node.id, taken, f"{path}:{node.lineno}")

    def test_no_name_is_bound_twice_at_the_top(self):
        for path in FILES:
            names = []
            for node in tree_of(path).body:
                if isinstance(node, ast.Assign):
                    names.append(node.targets[0].id)
                elif isinstance(node, (ast.FunctionDef, ast.ClassDef)):
                    names.append(node.name)
                elif isinstance(node, ast.ImportFrom):
                    names += [alias.name for alias in node.names]
            self.assertEqual(len(names), len(set(names)), path)


if __name__ == "__main__":
    unittest.main()

"""The form of the package's files: the rules of the language that can be seen in the code itself."""

import ast
import builtins
import re
import unittest
from pathlib import Path

PACKAGE = Path(__file__).resolve().parent.parent / "spantables"
FILES = sorted(PACKAGE.glob("*.py"))

STATEMENTS = (
    ast.Module, ast.FunctionDef, ast.ClassDef, ast.Assign, ast.AugAssign, ast.If, ast.While, ast.For, ast.Return,
    ast.Break, ast.Continue, ast.Pass, ast.Raise, ast.Try, ast.ExceptHandler, ast.Expr, ast.ImportFrom, ast.alias,
)
EXPRESSIONS = (
    ast.Constant, ast.List, ast.Tuple, ast.Dict, ast.BinOp, ast.UnaryOp, ast.BoolOp, ast.Compare, ast.IfExp, ast.Call,
    ast.Attribute, ast.Subscript, ast.Slice, ast.ListComp, ast.comprehension, ast.Name, ast.arguments, ast.arg,
    ast.keyword, ast.Lambda, ast.JoinedStr, ast.FormattedValue,
)
OPERATORS = (ast.expr_context, ast.operator, ast.unaryop, ast.boolop, ast.cmpop)
OWN_NAMES = set(
    "len range enumerate zip min max sum abs sorted reversed int str bool list tuple dict set isinstance ord repr any all "
    "divmod".split()
)
METHODS = set(
    "append clear copy count endswith extend find get index insert isalnum isalpha isdigit islower isspace isupper items "
    "join keys ljust lower lstrip partition pop remove replace reverse rfind rjust rpartition rsplit rstrip setdefault "
    "split splitlines startswith strip update upper values zfill bit_length".split()
)
WORDS_OUT = (
    r"\b(type|typing|typing_extensions|enum|Enum|IntEnum|StrEnum|Flag|IntFlag|Generic|Protocol|ABC|ABCMeta|namedtuple|"
    r"NamedTuple|TypedDict|TYPE_CHECKING|abstractmethod)\b|dataclass|overload|contextmanager"
)


def nodes():
    for path in FILES:
        for node in ast.walk(ast.parse(path.read_text())):
            yield path, node


class Form(unittest.TestCase):
    def test_files(self):
        self.assertIn("__init__.py", [path.name for path in FILES])
        for path in PACKAGE.rglob("*"):
            if "__pycache__" in path.parts:
                continue
            self.assertIsNotNone(re.fullmatch(r"[a-z0-9_]+\.py", path.name), path)

    def test_signs_and_sizes(self):
        for path in FILES:
            source = path.read_bytes().decode("ascii")
            self.assertIsNone(re.search(r"[^ -~\n]", source), path)
            self.assertIsNone(re.search(WORDS_OUT, source), path)
            self.assertLessEqual(len(source.splitlines()), 400, path)
            for number, line in enumerate(source.splitlines(), start=1):
                self.assertLessEqual(len(line), 120, f"{path}:{number}")

    def test_functions(self):
        for path, node in nodes():
            if isinstance(node, ast.FunctionDef):
                here = f"{path}:{node.lineno}"
                self.assertLessEqual(node.end_lineno - node.lineno + 1, 40, here)
                self.assertEqual(node.decorator_list, [], here)
                self.assertIsNone(node.args.vararg or node.args.kwarg, here)
                self.assertEqual(node.args.kwonlyargs + node.args.posonlyargs, [], here)

    def test_kinds_of_code(self):
        for path, node in nodes():
            here = f"{path}:{getattr(node, 'lineno', 0)} {node!r}"
            self.assertIsInstance(node, STATEMENTS + EXPRESSIONS + OPERATORS, here)
            self.assertNotIsInstance(node, (ast.Div, ast.MatMult), here)
            if isinstance(node, ast.Assign):
                self.assertEqual(len(node.targets), 1, here)
            if isinstance(node, (ast.For, ast.While)):
                self.assertEqual(node.orelse, [], here)
            if isinstance(node, ast.ListComp):
                self.assertEqual(len(node.generators), 1, here)
                self.assertLessEqual(len(node.generators[0].ifs), 1, here)
            if isinstance(node, ast.Compare) and any(isinstance(op, (ast.Is, ast.IsNot)) for op in node.ops):
                self.assertIn(node.comparators[0].value, (None, True, False), here)
            if isinstance(node, ast.Constant):
                self.assertIsInstance(node.value, (int, str, type(None)), here)
                self.assertNotIn("%", str(node.value), here)

    def test_imports(self):
        names = {path.stem for path in FILES}
        for path, node in nodes():
            if isinstance(node, ast.ImportFrom):
                here = f"{path}:{node.lineno}"
                self.assertEqual(node.level, 0, here)
                self.assertEqual(node.module.split(".")[0], "spantables", here)
                self.assertIn(node.module.split(".")[1], names, here)
                defined = self.top_names(PACKAGE / (node.module.split(".")[1] + ".py"))
                for alias in node.names:
                    self.assertIsNone(alias.asname, here)
                    self.assertIn(alias.name, defined, here)

    def test_names(self):
        methods = {node.name for _, kind in nodes() if isinstance(kind, ast.ClassDef) for node in kind.body}
        for path, node in nodes():
            here = f"{path}:{getattr(node, 'lineno', 0)}"
            if isinstance(node, ast.Name):
                self.assertIsNone(re.match("_", node.id), here)
                if hasattr(builtins, node.id):
                    self.assertIn(node.id, OWN_NAMES, here)
                    self.assertIsInstance(node.ctx, ast.Load, here)
            if isinstance(node, ast.arg):
                self.assertFalse(hasattr(builtins, node.arg) or node.arg.startswith("_"), here)
            if isinstance(node, ast.Call) and isinstance(node.func, ast.Attribute):
                self.assertIn(node.func.attr, METHODS | methods, here)
            if isinstance(node, ast.Attribute) and isinstance(node.ctx, ast.Store):
                self.assertIsInstance(node.value, ast.Name, here)
                self.assertNotIn(node.attr, methods, here)

    def test_no_local_is_called_like_a_class_or_an_import_of_its_file(self):
        for path in FILES:
            tree = ast.parse(path.read_text())
            taken = {alias.name for node in tree.body if isinstance(node, ast.ImportFrom) for alias in node.names}
            taken |= {node.name for node in tree.body if isinstance(node, ast.ClassDef)}
            for node in ast.walk(tree):
                here = f"{path}:{getattr(node, 'lineno', 0)}"
                if isinstance(node, ast.arg):
                    self.assertNotIn(node.arg, taken, here)
                if isinstance(node, ast.Name) and isinstance(node.ctx, ast.Store):
                    self.assertNotIn(node.id, taken, here)

    def test_no_two_files_draw_from_one_another(self):
        draws = {path.stem: [] for path in FILES}
        for path, node in nodes():
            if isinstance(node, ast.ImportFrom):
                draws[path.stem].append(node.module.split(".")[1])
        while draws:
            free = [stem for stem in draws if not any(other in draws for other in draws[stem])]
            self.assertNotEqual(free, [], draws)
            draws = {stem: draws[stem] for stem in draws if stem not in free}

    def test_names_are_bound_once_and_used(self):
        for path in FILES:
            tree = ast.parse(path.read_text())
            bound = self.top_names(path)
            bound += [alias.name for node in tree.body if isinstance(node, ast.ImportFrom) for alias in node.names]
            self.assertEqual(len(bound), len(set(bound)), path)
            used = {node.id for node in ast.walk(tree) if isinstance(node, ast.Name)}
            for node in tree.body:
                for alias in node.names if isinstance(node, ast.ImportFrom) else ():
                    self.assertIn(alias.name, used, path)

    @staticmethod
    def top_names(path):
        names = []
        for node in ast.parse(path.read_text()).body:
            if isinstance(node, (ast.FunctionDef, ast.ClassDef)):
                names.append(node.name)
            if isinstance(node, ast.Assign):
                names.append(node.targets[0].id)
        return names


if __name__ == "__main__":
    unittest.main()

"""The part of Python that the package keeps to: what a walk over its files can see of it."""

import ast
import builtins
import pathlib
import re
import unittest

PACKAGE = pathlib.Path(__file__).resolve().parent.parent / "formtablesyard"
FILES = sorted(PACKAGE.glob("*.py"))

NODES = (
    "Module ImportFrom alias FunctionDef arguments arg Lambda ClassDef Assign AugAssign If While For Return Break "
    "Continue Pass Raise Try ExceptHandler Expr Constant List Tuple Dict Set BinOp UnaryOp BoolOp Compare IfExp Call "
    "Attribute Subscript Slice ListComp comprehension JoinedStr FormattedValue Name Load Store keyword Add Sub Mult "
    "FloorDiv Mod Pow BitAnd BitOr BitXor LShift RShift Invert Not USub UAdd And Or Eq NotEq Lt LtE Gt GtE Is IsNot "
    "In NotIn"
).split()
OWN_OF_PYTHON = (
    "len range enumerate zip min max sum abs sorted reversed int str bool list tuple dict set frozenset isinstance "
    "ord repr any all divmod Exception ValueError TypeError KeyError IndexError LookupError ZeroDivisionError "
    "ArithmeticError OverflowError RuntimeError NotImplementedError AttributeError StopIteration"
).split()
METHODS = (
    "append clear copy count endswith extend find get index insert isalnum isalpha isdigit islower isspace isupper "
    "items join keys ljust lower lstrip partition pop remove replace reverse rfind rjust rpartition rsplit rstrip "
    "setdefault split splitlines startswith strip update upper values zfill bit_length"
).split()
WORDS_LEFT_OUT = re.compile(
    r"\b(type|typing|typing_extensions|enum|Enum|IntEnum|StrEnum|Flag|IntFlag|Generic|Protocol|ABC|ABCMeta|namedtuple"
    r"|NamedTuple|TypedDict|TYPE_CHECKING|abstractmethod)\b|dataclass|overload|contextmanager"
)


def walk():
    for file in FILES:
        for node in ast.walk(ast.parse(file.read_text())):
            yield f"{file.name}:{getattr(node, 'lineno', 0)}", node


class WrittenForm(unittest.TestCase):
    def test_files_and_signs(self):
        self.assertIn(PACKAGE / "__init__.py", FILES)
        for file in PACKAGE.rglob("*"):
            if "__pycache__" not in file.parts:
                self.assertIn(file, FILES)
        for file in FILES:
            text = file.read_bytes().decode("ascii")
            self.assertRegex(text, r"\A[\n -~]*\Z", file.name)
            self.assertIsNone(WORDS_LEFT_OUT.search(text), file.name)

    def test_sizes(self):
        for file in FILES:
            lines = file.read_text().split("\n")
            self.assertLessEqual(len(lines), 400, file.name)
            self.assertLessEqual(max(len(line) for line in lines), 120, file.name)
        for place, node in walk():
            if isinstance(node, ast.FunctionDef):
                self.assertLessEqual(node.end_lineno - node.lineno + 1, 40, place)

    def test_statements_and_expressions(self):
        for place, node in walk():
            self.assertIn(node.__class__.__name__, NODES, place)
            if isinstance(node, ast.Assign):
                self.assertEqual(len(node.targets), 1, place)
            if isinstance(node, (ast.For, ast.While)):
                self.assertEqual(node.orelse, [], place)
            if isinstance(node, ast.FunctionDef):
                self.assertEqual(node.decorator_list, [], place)
                self.assertEqual([node.args.vararg, node.args.kwarg, node.args.kwonlyargs], [None, None, []], place)

    def test_imports(self):
        for place, node in walk():
            if isinstance(node, ast.ImportFrom):
                self.assertRegex(node.module or "", r"\Aformtablesyard\.", place)
                self.assertEqual(node.level, 0, place)

    def test_names(self):
        for place, node in walk():
            if isinstance(node, ast.Name) and hasattr(builtins, node.id):
                self.assertIn(node.id, OWN_OF_PYTHON, place)
                self.assertIsInstance(node.ctx, ast.Load, place)
            if isinstance(node, ast.arg):
                self.assertFalse(hasattr(builtins, node.arg), place)
            if isinstance(node, ast.Name):
                self.assertRegex(node.id, r"\A[A-Za-z][A-Za-z0-9_]*\Z", place)

    def test_no_local_is_called_like_an_import_or_a_class(self):
        for file in FILES:
            tree = ast.parse(file.read_text())
            taken = [alias.name for node in tree.body if isinstance(node, ast.ImportFrom) for alias in node.names]
            taken += [node.name for node in tree.body if isinstance(node, (ast.ClassDef, ast.FunctionDef))]
            for node in ast.walk(tree):
                if isinstance(node, ast.Name) and isinstance(node.ctx, ast.Store):
                    self.assertNotIn(node.id, taken, f"{file.name}:{node.lineno}")
                if isinstance(node, ast.arg):
                    self.assertNotIn(node.arg, taken, f"{file.name}:{node.lineno}")

    def test_no_two_files_draw_from_one_another(self):
        drawn = {}
        for file in FILES:
            rows = [node for node in ast.parse(file.read_text()).body if isinstance(node, ast.ImportFrom)]
            drawn[file.stem] = {row.module.rpartition(".")[2] for row in rows}
        while drawn:
            free = [name for name in drawn if not drawn[name] & set(drawn)]
            self.assertNotEqual(free, [], f"a ring among {sorted(drawn)}")
            for name in free:
                drawn.pop(name)

    def test_tuples_of_a_files_top_hold_functions_of_that_file_alone(self):
        for file in FILES:
            tree = ast.parse(file.read_text())
            defined = [node.name for node in tree.body if isinstance(node, ast.FunctionDef)]
            for node in tree.body:
                if isinstance(node, ast.Assign):
                    for name in ast.walk(node.value):
                        if isinstance(name, ast.Name):
                            self.assertIn(name.id, defined, f"{file.name}:{node.lineno}")

    def test_methods(self):
        own = [node.name for place, node in walk() if isinstance(node, ast.FunctionDef)]
        for place, node in walk():
            if isinstance(node, ast.Call) and isinstance(node.func, ast.Attribute):
                self.assertIn(node.func.attr, METHODS + own, place)

    def test_no_name_is_a_method_and_a_value(self):
        methods = [
            one.name for place, node in walk() if isinstance(node, ast.ClassDef)
            for one in node.body if isinstance(one, ast.FunctionDef)
        ]
        for place, node in walk():
            if isinstance(node, ast.Attribute) and isinstance(node.ctx, ast.Store):
                self.assertNotIn(node.attr, methods, place)


if __name__ == "__main__":
    unittest.main()

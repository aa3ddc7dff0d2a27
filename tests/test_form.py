"""The package's own files keep to the small part of Python that the program is written in.

The rules' numbers (L1 to L28) are those of LANGUAGE.md. What is checked here is what a walk over the syntax can see.
"""

import ast
import builtins
import pathlib
import re
import unittest

PACKAGE = pathlib.Path(__file__).resolve().parent.parent / "pondyears"

NODES = """Module Expr Constant ImportFrom alias FunctionDef arguments arg Lambda ClassDef Assign AugAssign If While For
Return Break Continue Pass Raise Try ExceptHandler Call Name Attribute Subscript Slice List Tuple Dict Set ListComp
comprehension BinOp UnaryOp BoolOp Compare IfExp JoinedStr FormattedValue Load Store Add Sub Mult FloorDiv Mod Pow
BitAnd BitOr BitXor LShift RShift Invert Not USub UAdd And Or Eq NotEq Lt LtE Gt GtE Is IsNot In NotIn""".split()

BUILT_IN = """len range enumerate zip min max sum abs sorted reversed int str bool list tuple dict set frozenset isinstance
ord repr any all divmod Exception ValueError TypeError KeyError IndexError LookupError ZeroDivisionError ArithmeticError
OverflowError RuntimeError NotImplementedError AttributeError StopIteration""".split()

METHODS = """append clear copy count endswith extend find get index insert isalnum isalpha isdigit islower isspace isupper
items join keys ljust lower lstrip partition pop remove replace reverse rfind rjust rpartition rsplit rstrip setdefault
split splitlines startswith strip update upper values zfill bit_length""".split()

TWO_UNDERSCORES = ("__init__", "__eq__", "__repr__", "__str__", "__len__")

BANNED_WORDS = """type typing typing_extensions enum Enum IntEnum StrEnum Flag IntFlag Generic Protocol ABC ABCMeta
namedtuple NamedTuple TypedDict TYPE_CHECKING abstractmethod register mro elements open input version_info
with_traceback add_note attrgetter breakpoint builtins compile copyright credits delattr dir eval exec exit gc getattr
globals hasattr help id importlib license locals methodcaller os quit setattr super vars""".split()


def sources():
    return {path: path.read_text(encoding="utf-8") for path in sorted(PACKAGE.rglob("*.py"))}


def trees():
    return {path: ast.parse(text) for path, text in sources().items()}


def walk_all():
    for path, tree in trees().items():
        for node in ast.walk(tree):
            yield f"{path.name}:{getattr(node, 'lineno', 0)}", node


def bound_names(tree):
    for node in ast.walk(tree):
        if isinstance(node, ast.Name) and isinstance(node.ctx, ast.Store):
            yield node.id
        elif isinstance(node, ast.arg):
            yield node.arg
        elif isinstance(node, (ast.FunctionDef, ast.ClassDef)):
            yield node.name
        elif isinstance(node, ast.alias):
            yield node.asname or node.name


class Form(unittest.TestCase):
    def test_only_python_files_with_plain_names(self):
        for path in PACKAGE.rglob("*"):
            if "__pycache__" not in path.parts and path.is_file():
                self.assertRegex(path.name, r"^(__init__|__main__|[a-z][a-z0-9_]*)\.py$", "L1, L14")
        self.assertTrue((PACKAGE / "__init__.py").is_file(), "L14")
        self.assertTrue((PACKAGE / "pond.py").is_file())

    def test_signs_and_lengths(self):
        for path, text in sources().items():
            rows = text.split("\n")
            self.assertLessEqual(len(rows), 400, f"L10 {path.name}")
            for number, row in enumerate(rows, start=1):
                self.assertLessEqual(len(row), 120, f"L10 {path.name}:{number}")
                self.assertRegex(row, r"^[ -~]*$", f"L14 {path.name}:{number}")

    def test_words_that_are_not_used(self):
        for path, text in sources().items():
            found = set(re.findall(r"[A-Za-z_0-9]+", text)) & set(BANNED_WORDS)
            self.assertEqual(found, set(), f"L17 {path.name}")
            self.assertNotRegex(text, "dataclass|overload|contextmanager", f"L17 {path.name}")

    def test_statements_and_expressions(self):
        for where, node in walk_all():
            self.assertIn(node.__class__.__name__, NODES, f"L6, L7 {where}")
            if isinstance(node, ast.Constant):
                self.assertIn(node.value.__class__, (int, str, bool, None.__class__), f"L7 {where}")
            if isinstance(node, ast.Assign):
                self.assertEqual(len(node.targets), 1, f"L6 {where}")
                self.assertNotIsInstance(node.targets[0], (ast.Tuple, ast.List), f"L6 {where}")
            if isinstance(node, (ast.For, ast.While)):
                self.assertEqual(node.orelse, [], f"L6 {where}")
            if isinstance(node, ast.Try):
                self.assertEqual(node.finalbody, [], f"L6 {where}")
            if isinstance(node, ast.ListComp):
                self.assertEqual(len(node.generators), 1, f"L7 {where}")
                self.assertLessEqual(len(node.generators[0].ifs), 1, f"L7 {where}")

    def test_functions_and_classes(self):
        for where, node in walk_all():
            if isinstance(node, (ast.FunctionDef, ast.ClassDef)):
                self.assertEqual(node.decorator_list, [], f"L4, L5 {where}")
            if isinstance(node, ast.FunctionDef):
                self.assertLessEqual(node.end_lineno - node.lineno + 1, 40, f"L10 {where}")
                self.assertIsNone(node.returns, f"L21 {where}")
            if isinstance(node, ast.arguments):
                self.assertFalse(node.vararg or node.kwarg or node.kwonlyargs or node.posonlyargs, f"L4 {where}")
            if isinstance(node, ast.ClassDef):
                self.assertLessEqual(len(node.bases), 1, f"L5 {where}")

    def test_names(self):
        for path, tree in trees().items():
            bound = set(bound_names(tree))
            for name in bound - set(TWO_UNDERSCORES):
                self.assertRegex(name, r"^[A-Za-z][A-Za-z0-9_]*$", f"L12 {path.name}")
                self.assertNotIn(name, dir(builtins), f"L15 {path.name}")
            for node in ast.walk(tree):
                if isinstance(node, ast.Name):
                    self.assertIn(node.id, bound | set(BUILT_IN), f"L8 {path.name}:{node.lineno}")

    def test_methods_that_are_called(self):
        own = {name for tree in trees().values() for name in bound_names(tree)}
        for where, node in walk_all():
            if isinstance(node, ast.Call) and isinstance(node.func, ast.Attribute):
                self.assertIn(node.func.attr, own | set(METHODS), f"L25 {where}")

    def test_methods_and_values_of_objects(self):
        methods = {}
        values = set()
        for where, node in walk_all():
            if isinstance(node, ast.ClassDef):
                for step in node.body:
                    self.assertIsInstance(step, ast.FunctionDef, f"L5 {where}")
                    self.assertNotIn((node.name, step.name), methods, f"L18 {where}")
                    methods[node.name, step.name] = True
            if isinstance(node, ast.Attribute) and isinstance(node.ctx, ast.Store):
                values.add(node.attr)
        self.assertEqual(values & {name for owner, name in methods}, set(), "L18")
        own_of_python = {name for kind in (str, int, list, dict, set, bytes) for name in dir(kind)}
        for name in values | {name for owner, name in methods if name not in TWO_UNDERSCORES}:
            self.assertNotIn(name, own_of_python, "L26")

    def test_imports(self):
        for path, tree in trees().items():
            for node in ast.walk(tree):
                if isinstance(node, ast.ImportFrom):
                    self.assertIn(node, tree.body, f"L2 {path.name}:{node.lineno}")
                    self.assertEqual(node.level, 0, f"L2 {path.name}:{node.lineno}")
                    self.assertRegex(node.module, r"^pondyears\.[a-z]", f"L2 {path.name}:{node.lineno}")
                    self.assertNotEqual(node.names[0].name, "*", f"L2 {path.name}:{node.lineno}")

    def test_the_top_of_a_file(self):
        for path, tree in trees().items():
            names = []
            for node in tree.body:
                allowed = (ast.ImportFrom, ast.FunctionDef, ast.ClassDef, ast.Assign)
                docstring = node is tree.body[0] and isinstance(node, ast.Expr)
                self.assertTrue(docstring or isinstance(node, allowed), f"L3 {path.name}:{node.lineno}")
                names += [node.targets[0].id] if isinstance(node, ast.Assign) else []
                names += [node.name] if isinstance(node, (ast.FunctionDef, ast.ClassDef)) else []
            self.assertEqual(len(names), len(set(names)), f"L15 {path.name}")


if __name__ == "__main__":
    unittest.main()

"""The package's form: those rules of shared/LANGUAGE.md that can be read off the code."""

import ast
import builtins
import re
import unittest
from pathlib import Path

PACKAGE = Path(__file__).resolve().parent.parent / "brickrooms"

OWN_NAMES = set("""len range enumerate zip min max sum abs sorted reversed int str bool list tuple dict set frozenset
isinstance ord repr any all divmod Exception ValueError TypeError KeyError IndexError LookupError ZeroDivisionError
ArithmeticError OverflowError RuntimeError NotImplementedError AttributeError StopIteration""".split())
METHODS = set("""append clear copy count endswith extend find get index insert isalnum isalpha isdigit islower isspace
isupper items join keys ljust lower lstrip partition pop remove replace reverse rfind rjust rpartition rsplit rstrip
setdefault split splitlines startswith strip update upper values zfill bit_length""".split())
WORDS = re.compile(r"\b(type|typing|typing_extensions|enum|Enum|IntEnum|StrEnum|Flag|IntFlag|Generic|Protocol|ABC"
                   r"|ABCMeta|namedtuple|NamedTuple|TypedDict|TYPE_CHECKING|abstractmethod)\b"
                   r"|dataclass|overload|contextmanager")
NODES = set("""Module Expr Constant ImportFrom alias FunctionDef arguments arg ClassDef Assign AugAssign If While For
Return Break Continue Pass Raise Try ExceptHandler Call Name Load Store Attribute Subscript Slice List Tuple Dict
BinOp UnaryOp BoolOp Compare IfExp ListComp comprehension Lambda keyword JoinedStr FormattedValue
Add Sub Mult FloorDiv Mod Pow BitAnd BitOr BitXor LShift RShift Invert USub Not And Or Eq NotEq Lt LtE Gt GtE Is IsNot
In NotIn""".split())
BUILT_IN_KINDS = (str, int, list, dict, set, bytes, tuple)


def files():
    return sorted(PACKAGE.rglob("*.py"))


def nodes(path):
    return ast.walk(ast.parse(path.read_text()))


def own_methods():
    found = set()
    for path in files():
        for node in nodes(path):
            if isinstance(node, ast.ClassDef):
                found |= {inner.name for inner in node.body if isinstance(inner, ast.FunctionDef)}
    return found


def own_values():
    return {node.attr for path in files() for node in nodes(path)
            if isinstance(node, ast.Attribute) and isinstance(node.ctx, ast.Store)}


def bound_names(path):
    for node in nodes(path):
        if isinstance(node, (ast.FunctionDef, ast.ClassDef)):
            yield node.name
        elif isinstance(node, ast.arg):
            yield node.arg
        elif isinstance(node, ast.Name) and isinstance(node.ctx, ast.Store):
            yield node.id
        elif isinstance(node, ast.ExceptHandler) and node.name:
            yield node.name


def top_names(path):
    for node in ast.parse(path.read_text()).body:
        if isinstance(node, (ast.FunctionDef, ast.ClassDef)):
            yield node.name
        elif isinstance(node, ast.Assign):
            yield node.targets[0].id


class Form(unittest.TestCase):
    def test_files(self):
        names = [path.name for path in files()]
        self.assertLessEqual({"__init__.py", "builds.py"}, set(names))
        for name in names:
            self.assertRegex(name, "^([a-z][a-z0-9_]*|__init__)[.]py$")
        others = [path for path in PACKAGE.rglob("*") if path.suffix != ".py" and "__pycache__" not in path.parts]
        self.assertEqual(others, [])

    def test_signs_and_sizes(self):
        for path in files():
            rows = path.read_text().split("\n")
            self.assertLessEqual(len(rows), 400)
            for row in rows:
                self.assertTrue(all(" " <= sign <= "~" for sign in row), row)
                self.assertLessEqual(len(row), 120)
                self.assertIsNone(WORDS.search(row), row)
            for node in nodes(path):
                if isinstance(node, ast.FunctionDef):
                    self.assertLessEqual(node.end_lineno - node.lineno + 1, 40, node.name)

    def test_kinds_of_statement_and_expression(self):
        for path in files():
            for node in nodes(path):
                self.assertIn(node.__class__.__name__, NODES, (path.name, getattr(node, "lineno", 0)))
                if isinstance(node, ast.Assign):
                    self.assertEqual(len(node.targets), 1)
                if isinstance(node, (ast.FunctionDef, ast.ClassDef)):
                    self.assertEqual(node.decorator_list, [])
                if isinstance(node, (ast.For, ast.While)):
                    self.assertEqual(node.orelse, [])
                if isinstance(node, ast.Constant):
                    self.assertNotIsInstance(node.value, (float, bytes, complex))

    def test_the_top_of_a_file(self):
        for path in files():
            tree = ast.parse(path.read_text())
            self.assertIsNotNone(ast.get_docstring(tree), path.name)
            for node in tree.body[1:]:
                self.assertIsInstance(node, (ast.ImportFrom, ast.FunctionDef, ast.ClassDef, ast.Assign))
                if isinstance(node, ast.Assign):
                    ast.literal_eval(node.value)
                if isinstance(node, ast.ImportFrom):
                    self.assertEqual((node.module.split(".")[0], node.level), ("brickrooms", 0))

    def test_imports_name_the_defining_file_and_go_one_way(self):
        draws = {}
        for path in files():
            draws[path.stem] = set()
            for node in nodes(path):
                if isinstance(node, ast.ImportFrom):
                    source = PACKAGE / (node.module.split(".")[1] + ".py")
                    draws[path.stem].add(source.stem)
                    self.assertLessEqual({name.name for name in node.names}, set(top_names(source)))
        while draws:
            free = [stem for stem in draws if not draws[stem] & set(draws)]
            self.assertNotEqual(free, [], "files draw from one another")
            draws = {stem: draws[stem] for stem in draws if stem not in free}

    def test_names(self):
        for path in files():
            for name in bound_names(path):
                if name != "__init__":
                    self.assertRegex(name, "^[A-Za-z][A-Za-z0-9_]*$")
                    self.assertFalse(hasattr(builtins, name), name)
            for node in nodes(path):
                if isinstance(node, ast.Name) and hasattr(builtins, node.id):
                    self.assertIn(node.id, OWN_NAMES)

    def test_methods_and_values(self):
        methods = own_methods() - {"__init__"}
        values = own_values()
        self.assertEqual(methods & values, set())
        for name in methods | values:
            self.assertFalse(any(hasattr(kind, name) for kind in BUILT_IN_KINDS), name)
        for path in files():
            for node in nodes(path):
                if isinstance(node, ast.Attribute):
                    self.assertIn(node.attr, METHODS | methods | values | {"__init__"})


if __name__ == "__main__":
    unittest.main()

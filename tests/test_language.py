"""The package keeps to the rules of LANGUAGE.md, as far as they can be seen in its files."""

import ast
import builtins
import re
import unittest
from pathlib import Path

PACKAGE = Path(__file__).resolve().parent.parent / "bestdesigns"
FILES = sorted(path for path in PACKAGE.rglob("*") if "__pycache__" not in path.parts)
FORMS = (
    "Module FunctionDef ClassDef arguments arg Assign AugAssign If While For Return Break Continue Pass Raise Try "
    "ExceptHandler Expr Import ImportFrom alias Constant Name Attribute Subscript Slice List Tuple Dict Set Call "
    "keyword BinOp UnaryOp BoolOp Compare IfExp ListComp comprehension JoinedStr FormattedValue Lambda "
    "Load Store Add Sub Mult FloorDiv Mod Pow BitAnd BitOr BitXor Invert LShift RShift And Or Not USub UAdd "
    "Eq NotEq Lt LtE Gt GtE Is IsNot In NotIn"
).split()
BUILT_IN = (
    "len range enumerate zip min max sum abs sorted reversed int str bool list tuple dict set frozenset isinstance "
    "ord repr any all divmod Exception ValueError TypeError KeyError IndexError LookupError ZeroDivisionError "
    "ArithmeticError OverflowError RuntimeError NotImplementedError AttributeError StopIteration"
).split()
METHODS = (
    "append clear copy count endswith extend find get index insert isalnum isalpha isdigit islower isspace isupper "
    "items join keys ljust lower lstrip partition pop remove replace reverse rfind rjust rpartition rsplit rstrip "
    "setdefault split splitlines startswith strip update upper values zfill bit_length"
).split()
UNUSED = (
    "register mro elements open input version_info with_traceback add_note attrgetter breakpoint builtins compile "
    "copyright credits delattr dir eval exec exit gc getattr globals hasattr help id importlib license locals "
    "methodcaller os quit setattr super sys type vars chr print"
).split()
WORDS = re.compile(
    r"\b(type|typing|typing_extensions|enum|Enum|IntEnum|StrEnum|Flag|IntFlag|Generic|Protocol|ABC|ABCMeta|namedtuple|"
    r"NamedTuple|TypedDict|TYPE_CHECKING|abstractmethod)\b|dataclass|overload|contextmanager")


def nodes(path):
    return list(ast.walk(ast.parse(path.read_text("ascii"))))


def names_of(node):
    """Every name that a node gives or reads."""
    for field in ("id", "attr", "arg", "name", "asname"):
        value = getattr(node, field, None)
        if isinstance(value, str):
            yield value


class Language(unittest.TestCase):
    def test_files(self):
        self.assertIn(PACKAGE / "__init__.py", FILES)
        for path in FILES:
            self.assertRegex(path.name, r"^(__init__|[a-z][a-z0-9_]*)\.py$")
            text = path.read_text("ascii")
            self.assertRegex(text, r"\A[ -~\n]*\n\Z", path)
            self.assertLessEqual(len(text.splitlines()), 399, path)
            self.assertLessEqual(max(len(line) for line in text.splitlines()), 120, path)
            self.assertIsNone(WORDS.search(text), path)
            self.assertIsNotNone(ast.get_docstring(ast.parse(text)), path)

    def test_forms(self):
        for path in FILES:
            for node in nodes(path):
                with self.subTest(path=path, line=getattr(node, "lineno", 0)):
                    self.assertIn(type(node).__name__, FORMS)
                    if isinstance(node, ast.Constant):
                        self.assertIn(type(node.value), (int, str, bool, type(None)))
                    if isinstance(node, ast.Assign):
                        self.assertEqual(len(node.targets), 1)
                    if isinstance(node, (ast.For, ast.While)):
                        self.assertEqual(node.orelse, [])
                    if isinstance(node, ast.Try):
                        self.assertEqual(node.finalbody, [])
                    if isinstance(node, ast.ListComp):
                        self.assertEqual(len(node.generators), 1)
                        self.assertLessEqual(len(node.generators[0].ifs), 1)
                    if isinstance(node, ast.ExceptHandler):
                        self.assertIsNotNone(node.type)
                    if isinstance(node, ast.BinOp) and isinstance(node.op, ast.Pow):
                        self.assertIsInstance(node.right, ast.Constant)

    def test_functions_and_classes(self):
        for path in FILES:
            for node in nodes(path):
                with self.subTest(path=path, line=getattr(node, "lineno", 0)):
                    if isinstance(node, (ast.FunctionDef, ast.ClassDef)):
                        self.assertEqual(node.decorator_list, [])
                    if isinstance(node, ast.FunctionDef):
                        self.assertLessEqual(node.end_lineno - node.lineno + 1, 40)
                        self.assertIsNone(node.args.vararg or node.args.kwarg or node.returns)
                        self.assertEqual(node.args.kwonlyargs + node.args.posonlyargs, [])
                    if isinstance(node, ast.ClassDef):
                        self.assertLessEqual(len(node.bases), 1)
                        self.assertEqual([part for part in node.body[1:] if not isinstance(part, ast.FunctionDef)], [])

    def test_imports(self):
        for path in FILES:
            for node in nodes(path):
                self.assertNotIsInstance(node, ast.Import)
                if isinstance(node, ast.ImportFrom):
                    self.assertEqual(node.level, 0)
                    self.assertRegex(node.module, r"^bestdesigns\.[a-z_]+$")
                    source = ast.parse((PACKAGE / (node.module.split(".")[1] + ".py")).read_text("ascii"))
                    defined = [getattr(part, "name", None) or part.targets[0].id for part in source.body
                               if isinstance(part, (ast.FunctionDef, ast.ClassDef, ast.Assign))]
                    for alias in node.names:
                        self.assertIn(alias.name, defined)

    def test_names(self):
        for path in FILES:
            for node in nodes(path):
                for name in names_of(node):
                    with self.subTest(path=path, name=name):
                        self.assertNotIn(name, UNUSED)
                        if name != "__init__":
                            self.assertRegex(name, r"^[A-Za-z][A-Za-z0-9_]*$")
                stored = getattr(node, "ctx", None)
                if isinstance(node, ast.Name) and isinstance(stored, ast.Store):
                    self.assertNotIn(node.id, dir(builtins))
                if isinstance(node, ast.arg):
                    self.assertNotIn(node.arg, dir(builtins))

    def test_no_other_built_in_name(self):
        for path in FILES:
            tree = nodes(path)
            known = set(BUILT_IN)
            for node in tree:
                if isinstance(node, (ast.FunctionDef, ast.ClassDef)):
                    known.add(node.name)
                elif isinstance(node, ast.Name) and isinstance(node.ctx, ast.Store):
                    known.add(node.id)
                elif isinstance(node, ast.arg):
                    known.add(node.arg)
                elif isinstance(node, ast.alias):
                    known.add(node.name)
                elif isinstance(node, ast.ExceptHandler) and node.name:
                    known.add(node.name)
            read = {node.id for node in tree if isinstance(node, ast.Name) and isinstance(node.ctx, ast.Load)}
            self.assertEqual(sorted(read - known), [], path)

    def test_methods(self):
        own = {node.name for path in FILES for node in nodes(path) if isinstance(node, ast.FunctionDef)}
        for path in FILES:
            for node in nodes(path):
                if isinstance(node, ast.Call) and isinstance(node.func, ast.Attribute):
                    self.assertIn(node.func.attr, own.union(METHODS), path)

    def test_the_top_of_a_file(self):
        for path in FILES:
            body = ast.parse(path.read_text("ascii")).body
            bound = []
            for part in body[1:]:
                self.assertIsInstance(part, (ast.ImportFrom, ast.Assign, ast.FunctionDef, ast.ClassDef), path)
                if isinstance(part, ast.Assign):
                    bound.append(part.targets[0].id)
                    parts = list(ast.walk(part.value))
                    self.assertFalse([inner for inner in parts[1:] if isinstance(inner, (ast.List, ast.Dict))], path)
                    self.assertFalse([inner for inner in parts if isinstance(inner, (ast.Call, ast.BinOp))], path)
                elif isinstance(part, ast.ImportFrom):
                    bound.extend(alias.name for alias in part.names)
                else:
                    bound.append(part.name)
            self.assertEqual(len(bound), len(set(bound)), path)

    def test_answers_stands_in_one_file(self):
        holders = [path.name for path in FILES for part in ast.parse(path.read_text("ascii")).body
                   if isinstance(part, (ast.FunctionDef, ast.ClassDef)) and part.name == "answers"]
        self.assertEqual(holders, ["designs.py"])


if __name__ == "__main__":
    unittest.main()

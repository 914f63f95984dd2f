"""Whether the package keeps to the small part of Python that it is written in, as far as its files alone tell."""

import ast
import builtins
import pathlib
import re
import unittest

FOLDER = pathlib.Path(__file__).resolve().parent.parent / "paneslide"
STATEMENTS = (
    ast.FunctionDef, ast.ClassDef, ast.Return, ast.Assign, ast.AugAssign, ast.For, ast.While, ast.If, ast.Raise,
    ast.Try, ast.ImportFrom, ast.Expr, ast.Pass, ast.Break, ast.Continue,
)
EXPRESSIONS = (
    ast.BoolOp, ast.BinOp, ast.UnaryOp, ast.Lambda, ast.IfExp, ast.Dict, ast.ListComp, ast.Compare, ast.Call,
    ast.FormattedValue, ast.JoinedStr, ast.Constant, ast.Attribute, ast.Subscript, ast.Name, ast.List, ast.Tuple,
    ast.Slice,
)
BUILT_IN = (
    "len range enumerate zip min max sum abs sorted reversed int str bool list tuple dict isinstance ord repr any all "
    "divmod Exception ValueError TypeError KeyError IndexError LookupError ZeroDivisionError StopIteration"
).split()
METHODS = (
    "append clear copy count endswith extend find get index insert isalnum isalpha isdigit islower isspace isupper "
    "items join keys ljust lower lstrip partition pop remove replace reverse rfind rjust rpartition rsplit rstrip "
    "setdefault split splitlines startswith strip update upper values zfill bit_length"
).split()
WORDS = (
    "type typing typing_extensions enum Enum IntEnum StrEnum Flag IntFlag Generic Protocol ABC ABCMeta namedtuple "
    "NamedTuple TypedDict TYPE_CHECKING abstractmethod"
).split()


def sources():
    return {path.stem: path.read_text(encoding="utf-8") for path in sorted(FOLDER.glob("*.py"))}


def nodes(kind):
    for name, text in sources().items():
        for node in ast.walk(ast.parse(text)):
            if isinstance(node, kind):
                yield name, node


def drawn_from():
    """For each file those that it draws names from."""
    found = {name: set() for name in sources()}
    for name, node in nodes(ast.ImportFrom):
        found[name].add(node.module.split(".")[1])
    return found


class Form(unittest.TestCase):
    def test_files(self):
        found = [path.name for path in FOLDER.iterdir() if path.name != "__pycache__"]
        self.assertIn("desk.py", found)
        for name in found:
            self.assertRegex(name, r"^(__init__|[a-z][a-z0-9_]*)\.py$")

    def test_signs_and_lengths(self):
        for name, text in sources().items():
            rows = text.split("\n")
            self.assertLess(len(rows), 400, name)
            for row in rows:
                self.assertRegex(row, r"^[ -~]{0,120}$", name)
            for word in re.findall(r"\w+", text):
                self.assertNotIn(word, WORDS, name)
                self.assertNotRegex(word, "dataclass|overload|contextmanager", name)

    def test_functions_are_small(self):
        for name, node in nodes(ast.FunctionDef):
            self.assertLessEqual(node.end_lineno - node.lineno + 1, 40, (name, node.name))
            self.assertEqual(node.decorator_list, [])
            self.assertIsNone(node.args.vararg or node.args.kwarg)
            self.assertEqual(node.args.kwonlyargs + node.args.posonlyargs, [])

    def test_imports(self):
        for name, node in nodes(ast.ImportFrom):
            self.assertRegex(node.module, r"^paneslide\.[a-z]+$", name)
            self.assertEqual(node.level, 0)
            self.assertIn(node.module.split(".")[1], sources())
            self.assertFalse([one for one in node.names if one.asname or one.name == "*"])

    def test_no_two_files_draw_from_one_another(self):
        left = drawn_from()
        while left:
            free = [name for name in left if not left[name] & set(left)]
            self.assertTrue(free, left)
            left = {name: left[name] for name in left if name not in free}

    def test_statements_and_expressions(self):
        for name, node in nodes((ast.stmt, ast.expr)):
            self.assertIsInstance(node, STATEMENTS + EXPRESSIONS, (name, getattr(node, "lineno", 0)))
        for name, node in nodes((ast.For, ast.While)):
            self.assertEqual(node.orelse, [])
        for name, node in nodes(ast.Assign):
            self.assertEqual(len(node.targets), 1)
        for name, node in nodes(ast.ListComp):
            self.assertEqual(len(node.generators), 1)
        for name, node in nodes(ast.Constant):
            self.assertIn(type(node.value), (int, str, bool, type(None)), (name, node.lineno))
        self.assertEqual(list(nodes(ast.Div)), [])

    def test_names(self):
        own = {node.name for name, node in nodes((ast.FunctionDef, ast.ClassDef))}
        for name, node in nodes(ast.Name):
            self.assertRegex(node.id, "^[A-Za-z]", name)
            if hasattr(builtins, node.id):
                self.assertIn(node.id, BUILT_IN, (name, node.lineno))
                self.assertIsInstance(node.ctx, ast.Load, (name, node.lineno))
        for name, node in nodes(ast.arg):
            self.assertFalse(hasattr(builtins, node.arg), (name, node.arg))
        for name, node in nodes(ast.Call):
            if isinstance(node.func, ast.Attribute):
                self.assertIn(node.func.attr, METHODS + sorted(own), (name, node.lineno))

    def test_the_calls_stand_in_their_file_alone(self):
        for name, text in sources().items():
            for node in ast.parse(text).body:
                if isinstance(node, (ast.FunctionDef, ast.ClassDef)) and name != "desk":
                    self.assertNotIn(node.name, ["beyond", "row", "up", "locked", "judge", "out"], name)


if __name__ == "__main__":
    unittest.main()

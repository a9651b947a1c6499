"""The package's files keep to the part of Python that the project allows, as far as a short look can tell."""

import ast
import builtins
import pathlib
import re
import unittest

PACKAGE = pathlib.Path(__file__).resolve().parent.parent / "keptheap"
OWN_NAMES = """len range enumerate zip min max sum abs sorted reversed int str bool list tuple dict set frozenset
isinstance ord repr any all divmod Exception ValueError TypeError KeyError IndexError LookupError
ZeroDivisionError ArithmeticError OverflowError RuntimeError NotImplementedError AttributeError
StopIteration""".split()
METHODS = """append clear copy count endswith extend find get index insert isalnum isalpha isdigit islower isspace
isupper items join keys ljust lower lstrip partition pop remove replace reverse rfind rjust rpartition rsplit rstrip
setdefault split splitlines startswith strip update upper values zfill bit_length""".split()
NODES = """Module FunctionDef arguments arg ClassDef Return Assign AugAssign For While If Raise Try ImportFrom alias
Expr Pass Break Continue BoolOp BinOp UnaryOp Lambda IfExp Dict ListComp comprehension Compare Call FormattedValue
JoinedStr Constant Attribute Subscript Name List Tuple Slice ExceptHandler keyword Load Store And Or Add Sub Mult Mod
Pow LShift RShift BitOr BitXor BitAnd FloorDiv Invert Not UAdd USub Eq NotEq Lt LtE Gt GtE Is IsNot In NotIn""".split()
WORDS = """type typing typing_extensions enum Enum IntEnum StrEnum Flag IntFlag Generic Protocol ABC ABCMeta
namedtuple NamedTuple TypedDict TYPE_CHECKING abstractmethod""".split()


def own_methods(trees):
    return {part.name for tree in trees for part in ast.walk(tree) if isinstance(part, ast.FunctionDef)}


def faults_of_text(text):
    for row, line in enumerate(text.split("\n"), start=1):
        if len(line) > 120 or re.search("[^ -~]", line):
            yield row, "the line is too long or has a sign out of range"
        if set(re.findall(r"\w+", line)) & set(WORDS) or re.search("dataclass|overload|contextmanager", line):
            yield row, "a word that stands nowhere"
    if text.count("\n") > 400:
        yield 401, "the file is too long"


def faults_of_part(part, methods):
    row = getattr(part, "lineno", 0)
    if type(part).__name__ not in NODES:
        yield row, type(part).__name__
    if isinstance(part, ast.FunctionDef) and part.end_lineno - row >= 40:
        yield row, "the function is too long"
    if isinstance(part, ast.ImportFrom) and not part.module.startswith("keptheap."):
        yield row, "imports from outside"
    if isinstance(part, ast.Assign) and (len(part.targets) != 1 or isinstance(part.targets[0], ast.Tuple)):
        yield row, "one target in an assignment"
    if isinstance(part, ast.Name) and part.id in dir(builtins):
        if part.id not in OWN_NAMES or isinstance(part.ctx, ast.Store):
            yield row, part.id
    if isinstance(part, ast.arg) and part.arg in dir(builtins):
        yield row, part.arg
    if isinstance(part, ast.Call) and isinstance(part.func, ast.Attribute):
        if part.func.attr not in METHODS and part.func.attr not in methods:
            yield row, part.func.attr
    for name in (getattr(part, "name", None), getattr(part, "id", None), getattr(part, "attr", None)):
        if isinstance(name, str) and name.startswith("_") and name != "__init__":
            yield row, name


class Language(unittest.TestCase):
    def test_files(self):
        files = sorted(path for path in PACKAGE.iterdir() if path.name != "__pycache__")
        self.assertIn("heap.py", [path.name for path in files])
        trees = {path: ast.parse(path.read_text("utf-8")) for path in files}
        methods = own_methods(trees.values())
        for path in files:
            self.assertRegex(path.name, r"^[a-z_0-9]+\.py$")
            self.assertEqual(list(faults_of_text(path.read_text("utf-8"))), [], path)
            for part in ast.walk(trees[path]):
                self.assertEqual(list(faults_of_part(part, methods)), [], path)


if __name__ == "__main__":
    unittest.main()

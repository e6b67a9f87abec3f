"""The package's files keep to the part of Python that the program is written in.

Only what a look at the syntax tree settles is held here; the rest is for a reader.
"""

import ast
import builtins
import pathlib
import re
import unittest

PACKAGE = pathlib.Path(__file__).resolve().parent.parent / "viewstable"

WORDS_LEFT_OUT = re.compile(
    r"\b(type|typing|typing_extensions|enum|Enum|IntEnum|StrEnum|Flag|IntFlag|Generic|Protocol|ABC|ABCMeta"
    r"|namedtuple|NamedTuple|TypedDict|TYPE_CHECKING|abstractmethod)\b|dataclass|overload|contextmanager")

OWN_NAMES_OF_PYTHON = set(
    "len range enumerate zip min max sum abs sorted reversed int str bool list tuple dict set frozenset isinstance "
    "ord repr any all divmod Exception ValueError TypeError KeyError IndexError LookupError ZeroDivisionError "
    "ArithmeticError OverflowError RuntimeError NotImplementedError AttributeError StopIteration".split())

NODES_LEFT_OUT = (
    ast.Import, ast.With, ast.Match, ast.Delete, ast.Global, ast.Nonlocal, ast.Assert, ast.Yield, ast.YieldFrom,
    ast.AsyncFunctionDef, ast.AsyncFor, ast.AsyncWith, ast.Await, ast.SetComp, ast.DictComp, ast.GeneratorExp,
    ast.NamedExpr, ast.Starred, ast.Div)

METHODS_OF_PYTHON = set(
    "append clear copy count endswith extend find get index insert isalnum isalpha isdigit islower isspace isupper "
    "items join keys ljust lower lstrip partition pop remove replace reverse rfind rjust rpartition rsplit rstrip "
    "setdefault split splitlines startswith strip update upper values zfill bit_length".split())

WALKED_AT_ONCE = ("zip", "enumerate", "reversed", "range")
WALKERS = ("list", "tuple", "dict", "sorted", "sum", "any", "all", "enumerate", "zip", "min", "max")


def files():
    return sorted(PACKAGE.rglob("*.py"))


def nodes():
    for file in files():
        for node in ast.walk(ast.parse(file.read_text(encoding="ascii"))):
            yield f"{file.name}:{getattr(node, 'lineno', '')}", node


def called(node):
    """The plain name that is called here, or None."""
    if isinstance(node, ast.Call) and isinstance(node.func, ast.Name):
        return node.func.id
    return None


class FormOfThePackage(unittest.TestCase):
    def test_there_are_only_its_files(self):
        names = {path.name for path in PACKAGE.iterdir() if path.name != "__pycache__"}
        self.assertIn("__init__.py", names)
        self.assertEqual([name for name in names if not re.fullmatch(r"[a-z0-9_]+\.py", name)], [])

    def test_signs_words_and_sizes(self):
        for file in files():
            lines = file.read_bytes().decode("ascii").split("\n")
            self.assertLessEqual(len(lines), 400, file)
            for number, line in enumerate(lines, start=1):
                place = f"{file.name}:{number}"
                self.assertLessEqual(len(line), 120, place)
                self.assertRegex(line, r"\A[ -~]*\Z", place)
                self.assertIsNone(WORDS_LEFT_OUT.search(line), place)

    def test_functions_are_short_and_plain(self):
        for place, node in nodes():
            if isinstance(node, ast.FunctionDef):
                self.assertLessEqual(node.end_lineno - node.lineno + 1, 40, place)
                self.assertEqual(node.decorator_list, [], place)
                self.assertIsNone(node.args.vararg or node.args.kwarg, place)
                self.assertEqual(node.args.kwonlyargs + node.args.posonlyargs, [], place)

    def test_imports_are_the_packages_own(self):
        for place, node in nodes():
            if isinstance(node, ast.ImportFrom):
                self.assertEqual(node.level, 0, place)
                self.assertRegex(node.module, r"\Aviewstable\.[a-z0-9_]+\Z", place)

    def test_loops_and_tries_are_plain(self):
        for place, node in nodes():
            if isinstance(node, (ast.For, ast.While)):
                self.assertEqual(node.orelse, [], place)
            if isinstance(node, ast.Try):
                self.assertEqual(node.finalbody, [], place)
            if isinstance(node, ast.ExceptHandler):
                self.assertIsInstance(node.type, ast.Name, place)
                self.assertNotIn(node.type.id, ("Exception", "TypeError"), place)

    def test_methods_are_own_ones_or_listed(self):
        own = {node.name for place, node in nodes() if isinstance(node, ast.FunctionDef)}
        for place, node in nodes():
            if isinstance(node, ast.Call) and isinstance(node.func, ast.Attribute):
                self.assertIn(node.func.attr, own | METHODS_OF_PYTHON, place)

    def test_no_name_is_a_method_and_a_value(self):
        methods = {part.name for place, node in nodes() if isinstance(node, ast.ClassDef)
                   for part in node.body if isinstance(part, ast.FunctionDef)}
        values = {node.attr for place, node in nodes()
                  if isinstance(node, ast.Attribute) and isinstance(node.ctx, ast.Store)}
        self.assertEqual(methods & values, set())

    def test_walks_are_walked_on_the_spot(self):
        walked = [node.iter for place, node in nodes() if isinstance(node, (ast.For, ast.comprehension))]
        walked += [node.args[0] for place, node in nodes() if called(node) in WALKERS and node.args]
        places = {ast.dump(node, include_attributes=True) for node in walked}
        for place, node in nodes():
            if called(node) in WALKED_AT_ONCE:
                self.assertIn(ast.dump(node, include_attributes=True), places, place)

    def test_nothing_left_out_is_used(self):
        for place, node in nodes():
            self.assertNotIsInstance(node, NODES_LEFT_OUT, place)
            if isinstance(node, ast.Constant):
                self.assertNotIsInstance(node.value, (float, complex, bytes), place)
            if isinstance(node, ast.Name) and node.id in dir(builtins):
                self.assertIsInstance(node.ctx, ast.Load, place)
                self.assertIn(node.id, OWN_NAMES_OF_PYTHON, place)
            if isinstance(node, ast.Name):
                self.assertFalse(node.id.startswith("_"), place)


if __name__ == "__main__":
    unittest.main()

"""The package has the functions that are promised, and its files keep to their part of Python."""

import ast
import builtins
import inspect
import re
import unittest
from pathlib import Path

from chancenet import nets

PACKAGE = Path(__file__).resolve().parent.parent / "chancenet"

NODES = set("""
Module Expr Constant ImportFrom alias FunctionDef arguments arg ClassDef Assign AugAssign If While For Return Break
Continue Pass Raise Try ExceptHandler Call keyword Attribute Subscript Slice Name Load Store List Tuple Dict Set
ListComp comprehension Lambda IfExp BoolOp And Or UnaryOp Not USub Invert BinOp Add Sub Mult FloorDiv Mod Pow LShift
RShift BitOr BitXor BitAnd Compare Eq NotEq Lt LtE Gt GtE Is IsNot In NotIn JoinedStr FormattedValue
""".split())

OWN_NAMES = set("""
len range enumerate zip min max sum abs sorted reversed int str bool list tuple dict set frozenset isinstance ord repr
any all divmod Exception ValueError TypeError KeyError IndexError LookupError ZeroDivisionError ArithmeticError
OverflowError RuntimeError NotImplementedError AttributeError StopIteration
""".split())

METHODS = set("""
append clear copy count endswith extend find get index insert isalnum isalpha isdigit islower isspace isupper items
join keys ljust lower lstrip partition pop remove replace reverse rfind rjust rpartition rsplit rstrip setdefault split
splitlines startswith strip update upper values zfill bit_length
""".split())

UNUSED = set("""
register mro elements open input version_info with_traceback add_note format format_map attrgetter breakpoint builtins
compile copyright credits delattr dir eval exec exit gc getattr globals hasattr help id importlib license locals
methodcaller os quit setattr super sys type vars chr
""".split())

CALLS = {
    "bn_check": ["net"],
    "bn_ask": ["most", "net", "ask"],
    "bn_best": ["most", "net", "known"],
    "bn_apart": ["net", "ask"],
    "bn_draw": ["numbers", "net"],
}

WORDS = re.compile(
    r"\b(type|typing|typing_extensions|enum|Enum|IntEnum|StrEnum|Flag|IntFlag|Generic|Protocol|ABC|ABCMeta|namedtuple"
    r"|NamedTuple|TypedDict|TYPE_CHECKING|abstractmethod)\b|dataclass|overload|contextmanager"
)


def sources():
    return [(path.name, path.read_text(encoding="utf-8")) for path in sorted(PACKAGE.glob("*.py"))]


def nodes():
    return [(name, node) for name, text in sources() for node in ast.walk(ast.parse(text))]


class Interface(unittest.TestCase):
    def test_names_and_arguments(self):
        for name, arguments in CALLS.items():
            self.assertEqual(list(inspect.signature(getattr(nets, name)).parameters), arguments, name)


class Form(unittest.TestCase):
    def test_nothing_else_lies_in_the_package(self):
        found = [path.name for path in PACKAGE.iterdir() if path.name != "__pycache__"]
        self.assertIn("__init__.py", found)
        self.assertEqual([name for name in found if not re.fullmatch(r"(__init__|[a-z][a-z0-9_]*)\.py", name)], [])

    def test_signs_and_sizes(self):
        for name, text in sources():
            self.assertIsNone(re.search(r"[^\n -~]", text), name)
            self.assertIsNone(WORDS.search(text), name)
            lines = text.splitlines()
            self.assertLessEqual(len(lines), 400, name)
            self.assertLessEqual(max(len(line) for line in lines), 120, name)

    def test_functions_are_small_and_plain(self):
        for name, node in nodes():
            if isinstance(node, ast.FunctionDef):
                self.assertLessEqual(node.end_lineno - node.lineno + 1, 40, (name, node.name))
                self.assertEqual(node.decorator_list, [], (name, node.name))
                self.assertIsNone(node.args.vararg or node.args.kwarg, (name, node.name))

    def test_statements_and_values(self):
        for name, node in nodes():
            where = (name, getattr(node, "lineno", 0))
            self.assertIn(node.__class__.__name__, NODES, where)
            if isinstance(node, ast.Assign):
                self.assertEqual(len(node.targets), 1, where)
            if isinstance(node, (ast.For, ast.While)):
                self.assertEqual(node.orelse, [], where)
            if isinstance(node, ast.Try):
                self.assertEqual(node.finalbody, [], where)
            if isinstance(node, ast.Constant):
                self.assertIsInstance(node.value, (int, str, bool, type(None)), where)

    def test_imports_are_the_packages_own(self):
        for name, node in nodes():
            if isinstance(node, ast.ImportFrom):
                self.assertEqual(node.level, 0, name)
                self.assertTrue(node.module.startswith("chancenet."), name)

    def test_imports_are_from_where_a_name_is_defined(self):
        defined = {}
        drawn = {}
        for name, text in sources():
            module = "chancenet." + name[:-3]
            body = ast.parse(text).body
            defined[module] = [node.name for node in body if isinstance(node, (ast.FunctionDef, ast.ClassDef))]
            defined[module] += [node.targets[0].id for node in body if isinstance(node, ast.Assign)]
            drawn[module] = [(node.module, alias.name) for node in body if isinstance(node, ast.ImportFrom)
                             for alias in node.names]
            self.assertEqual(len(set(defined[module])), len(defined[module]), name)
        for module, pairs in drawn.items():
            for source, name in pairs:
                self.assertIn(name, defined[source], module)
        while drawn:
            ready = [module for module in drawn if not any(source in drawn for source, name in drawn[module])]
            self.assertNotEqual(ready, [], "files draw from one another")
            for module in ready:
                del drawn[module]

    def test_names_that_are_not_used(self):
        for name, node in nodes():
            for word in (getattr(node, "id", ""), getattr(node, "attr", ""), getattr(node, "arg", "")):
                self.assertNotIn(word, UNUSED, (name, getattr(node, "lineno", 0)))

    def test_errors_are_the_programs_own(self):
        own = [node.name for name, node in nodes() if isinstance(node, ast.ClassDef)]
        for name, node in nodes():
            if isinstance(node, ast.ExceptHandler):
                self.assertIn(getattr(node.type, "id", None), own, (name, node.lineno))

    def test_names(self):
        for name, node in nodes():
            where = (name, getattr(node, "lineno", 0))
            if isinstance(node, ast.Name) and hasattr(builtins, node.id):
                self.assertIn(node.id, OWN_NAMES, where)
                self.assertIsInstance(node.ctx, ast.Load, where)
            if isinstance(node, ast.arg):
                self.assertFalse(hasattr(builtins, node.arg), where)
            if isinstance(node, (ast.Name, ast.arg)):
                self.assertFalse(getattr(node, "id", getattr(node, "arg", "")).startswith("_"), where)

    def test_methods(self):
        own = [node.name for name, node in nodes() if isinstance(node, ast.FunctionDef)]
        for name, node in nodes():
            if isinstance(node, ast.Call) and isinstance(node.func, ast.Attribute):
                self.assertIn(node.func.attr, METHODS | set(own), (name, node.lineno))


if __name__ == "__main__":
    unittest.main()

"""The package's files keep to the part of Python they are to be written in, as far as a walk can see it."""

import ast
import re
import unittest
from pathlib import Path

PACKAGE = Path(__file__).resolve().parent.parent / "partscores"

NODES = """
Module Expr Constant ImportFrom alias FunctionDef arguments arg ClassDef Assign AugAssign If While For Return Break
Continue Pass Raise Try ExceptHandler Call Name Load Store Attribute Subscript Slice List Tuple Dict ListComp
comprehension BinOp UnaryOp BoolOp Compare IfExp Lambda JoinedStr FormattedValue keyword Add Sub Mult FloorDiv Mod Pow
BitAnd BitOr BitXor LShift RShift Invert And Or Not USub Eq NotEq Lt LtE Gt GtE Is IsNot In NotIn
""".split()

OWN = """
len range enumerate zip min max sum abs sorted reversed int str bool list tuple dict set frozenset isinstance ord repr
any all divmod Exception ValueError TypeError KeyError IndexError LookupError ZeroDivisionError ArithmeticError
OverflowError RuntimeError NotImplementedError StopIteration
""".split()

NOWHERE = "register mro elements open input version_info with_traceback add_note format format_map".split()

NOT_AS_NAMES = """
attrgetter breakpoint builtins compile copyright credits delattr dir eval exec exit gc getattr globals hasattr help id
importlib license locals methodcaller os quit setattr super sys vars
""".split()

METHODS = """
append clear copy count endswith extend find get index insert isalnum isalpha isdigit islower isspace isupper items
join keys ljust lower lstrip partition pop remove replace reverse rfind rjust rpartition rsplit rstrip setdefault split
splitlines startswith strip update upper values zfill bit_length
""".split()

WORDS = re.compile(
    r"\b(type|typing|typing_extensions|enum|Enum|IntEnum|StrEnum|Flag|IntFlag|Generic|Protocol|ABC|ABCMeta|namedtuple"
    r"|NamedTuple|TypedDict|TYPE_CHECKING|abstractmethod)\b|dataclass|overload|contextmanager"
)


def files():
    return sorted(PACKAGE.glob("*.py"))


def trees():
    return [(path.name, ast.parse(path.read_text(encoding="utf-8"))) for path in files()]


def nodes():
    return [(name, node) for name, tree in trees() for node in ast.walk(tree)]


def bound(tree):
    """Every name that a file gives a meaning to."""
    names = set()
    for node in ast.walk(tree):
        if isinstance(node, (ast.FunctionDef, ast.ClassDef)):
            names.add(node.name)
        elif isinstance(node, ast.arg):
            names.add(node.arg)
        elif isinstance(node, ast.alias):
            names.add(node.asname or node.name)
        elif isinstance(node, ast.Name) and isinstance(node.ctx, ast.Store):
            names.add(node.id)
    return names


def at_the_top(tree):
    """The names that a file itself defines at its top."""
    names = [node.name for node in tree.body if isinstance(node, (ast.FunctionDef, ast.ClassDef))]
    return names + [node.targets[0].id for node in tree.body if isinstance(node, ast.Assign)]


class Form(unittest.TestCase):
    def test_only_plain_files(self):
        inside = [path.name for path in PACKAGE.iterdir() if path.name != "__pycache__"]
        self.assertEqual([name for name in inside if not re.fullmatch(r"(__init__|[a-z][a-z0-9_]*)\.py", name)], [])
        self.assertIn("__init__.py", inside)
        self.assertIn("desk.py", inside)

    def test_sizes_and_signs(self):
        for path in files():
            text = path.read_bytes()
            self.assertEqual([sign for sign in text if sign != 10 and not 32 <= sign <= 126], [], path.name)
            rows = text.decode().split("\n")
            self.assertLessEqual(len(rows), 400, path.name)
            self.assertLessEqual(max(len(row) for row in rows), 120, path.name)
            self.assertIsNone(WORDS.search(text.decode()), path.name)

    def test_functions_are_short(self):
        for name, node in nodes():
            if isinstance(node, ast.FunctionDef):
                self.assertLessEqual(node.end_lineno - node.lineno + 1, 40, (name, node.name))
                self.assertEqual(node.decorator_list, [], (name, node.name))

    def test_only_the_parts_of_the_language_that_are_allowed(self):
        for name, node in nodes():
            self.assertIn(node.__class__.__name__, NODES, (name, getattr(node, "lineno", None)))
            if isinstance(node, ast.Constant):
                self.assertIn(node.value.__class__, (int, str, bool, None.__class__), (name, node.lineno))
            if isinstance(node, ast.Assign):
                self.assertEqual(len(node.targets), 1, (name, node.lineno))

    def test_imports_are_the_packages_own(self):
        for name, node in nodes():
            if isinstance(node, ast.ImportFrom):
                self.assertRegex(node.module, r"^partscores\.[a-z_]+$", name)
                self.assertNotIn("*", [alias.name for alias in node.names], name)

    def test_imports_are_from_the_file_that_defines_the_name_and_never_in_a_ring(self):
        drawn = {name: set() for name, tree in trees()}
        defined = {name: at_the_top(tree) for name, tree in trees()}
        for name, node in nodes():
            if isinstance(node, ast.ImportFrom):
                source = node.module.split(".")[1] + ".py"
                drawn[name].add(source)
                self.assertEqual([one.name for one in node.names if one.name not in defined[source]], [], name)
        while drawn:
            free = [name for name, sources in drawn.items() if not sources & set(drawn)]
            self.assertNotEqual(free, [], drawn)
            drawn = {name: sources for name, sources in drawn.items() if name not in free}

    def test_each_name_is_bound_once_at_the_top(self):
        for name, tree in trees():
            imports = [node for node in tree.body if isinstance(node, ast.ImportFrom)]
            names = at_the_top(tree) + [one.name for node in imports for one in node.names]
            self.assertEqual(sorted(set(names)), sorted(names), name)
            for node in ast.walk(tree):
                if isinstance(node, ast.FunctionDef):
                    inner = [one.arg for one in node.args.args]
                    stored = [one for one in ast.walk(node) if isinstance(one, ast.Name) and isinstance(one.ctx, ast.Store)]
                    inner += [one.id for one in stored]
                    self.assertEqual([one for one in inner if one in names], [], (name, node.name))

    def test_is_stands_beside_none_true_and_false_alone(self):
        for name, node in nodes():
            if isinstance(node, ast.Compare) and any(isinstance(one, (ast.Is, ast.IsNot)) for one in node.ops):
                self.assertEqual(len(node.ops), 1, (name, node.lineno))
                self.assertIsInstance(node.comparators[0], ast.Constant, (name, node.lineno))
                self.assertNotIsInstance(node.comparators[0].value, str, (name, node.lineno))

    def test_what_is_walked_at_once_is_not_kept(self):
        for name, node in nodes():
            if isinstance(node, (ast.Assign, ast.Return)) and isinstance(node.value, ast.Call):
                called = node.value.func
                if isinstance(called, ast.Name):
                    self.assertNotIn(called.id, ("zip", "enumerate", "reversed", "range", "set"), (name, node.lineno))
                else:
                    self.assertNotIn(called.attr, ("items", "keys", "values"), (name, node.lineno))

    def test_names(self):
        for name, tree in trees():
            names = bound(tree)
            self.assertEqual([own for own in names if own.startswith("_") and own != "__init__"], [], name)
            self.assertEqual([own for own in names if own in dir(__import__("builtins"))], [], name)
            used = [node.id for node in ast.walk(tree) if isinstance(node, ast.Name)]
            self.assertEqual([one for one in used if one not in names and one not in OWN], [], name)

    def test_attributes(self):
        methods = []
        values = []
        for name, node in nodes():
            if isinstance(node, ast.ClassDef):
                methods += [inner.name for inner in node.body if isinstance(inner, ast.FunctionDef)]
            if isinstance(node, ast.Attribute) and isinstance(node.ctx, ast.Store):
                values.append(node.attr)
        self.assertEqual(set(methods) & set(values), set())
        pythons = {one for kind in (int, str, list, dict, set, bytes, tuple) for one in dir(kind)} - {"__init__"}
        self.assertEqual((set(methods) | set(values)) & pythons, set())
        used = {node.attr for name, node in nodes() if isinstance(node, ast.Attribute)}
        self.assertEqual(used - set(methods) - set(values) - set(METHODS), set())

    def test_names_that_are_not_used(self):
        for name, tree in trees():
            inside = [node.attr for node in ast.walk(tree) if isinstance(node, ast.Attribute)]
            self.assertEqual([one for one in bound(tree) | set(inside) if one in NOWHERE], [], name)
            self.assertEqual([one for one in bound(tree) if one in NOT_AS_NAMES], [], name)


if __name__ == "__main__":
    unittest.main()

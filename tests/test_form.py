"""The rules of LANGUAGE.md that can be seen from the signs and the tree of the package's files alone."""

import ast
import builtins
import pathlib
import re
import unittest

PACKAGE = pathlib.Path(__file__).resolve().parent.parent / "vectordelivery"

# L4 to L7: what stands in the package's files, and nothing else.
NODES = set("""
    Module FunctionDef ClassDef arguments arg Expr Constant Name Load Store Assign AugAssign Return If While For Break
    Continue Pass Raise Try ExceptHandler Lambda Call Attribute Subscript Slice List Tuple Dict Set ListComp comprehension
    IfExp BinOp UnaryOp BoolOp Compare JoinedStr FormattedValue ImportFrom alias keyword
    Add Sub Mult FloorDiv Mod Pow BitAnd BitOr BitXor LShift RShift Invert Not USub And Or
    Eq NotEq Lt LtE Gt GtE Is IsNot In NotIn
""".split())

# L8, without `chr` (L27) and `print` (there is no __main__.py).
BUILTINS = set("""
    len range enumerate zip min max sum abs sorted reversed int str bool list tuple dict set frozenset isinstance ord repr
    any all divmod Exception ValueError TypeError KeyError IndexError LookupError ZeroDivisionError ArithmeticError
    OverflowError RuntimeError NotImplementedError AttributeError StopIteration
""".split())

# L25.
METHODS = set("""
    append clear copy count endswith extend find get index insert isalnum isalpha isdigit islower isspace isupper items
    join keys ljust lower lstrip partition pop remove replace reverse rfind rjust rpartition rsplit rstrip setdefault
    split splitlines startswith strip update upper values zfill bit_length
""".split())

# L17, its last list: words that stand nowhere.
WORDS = re.compile(
    r"\b(type|typing|typing_extensions|enum|Enum|IntEnum|StrEnum|Flag|IntFlag|Generic|Protocol|ABC|ABCMeta|namedtuple"
    r"|NamedTuple|TypedDict|TYPE_CHECKING|abstractmethod)\b|dataclass|overload|contextmanager"
)


def files():
    return sorted(PACKAGE.rglob("*.py"))


def trees():
    return [(path.name, ast.parse(path.read_text())) for path in files()]


def walk():
    for name, tree in trees():
        for node in ast.walk(tree):
            yield f"{name}:{getattr(node, 'lineno', 0)}", node


def bound_names():
    for place, node in walk():
        if isinstance(node, (ast.FunctionDef, ast.ClassDef)):
            yield place, node.name
        elif isinstance(node, ast.arg):
            yield place, node.arg
        elif isinstance(node, ast.Name) and isinstance(node.ctx, ast.Store):
            yield place, node.id
        elif isinstance(node, ast.Attribute) and isinstance(node.ctx, ast.Store):
            yield place, node.attr


class Form(unittest.TestCase):
    def test_files(self):
        found = [path for path in PACKAGE.rglob("*") if "__pycache__" not in path.parts]
        self.assertEqual(sorted(found), files())
        for path in found:
            self.assertRegex(path.name, r"^([a-z][a-z0-9_]*|__init__)\.py$")

    def test_sizes_and_signs(self):
        for path in files():
            text = path.read_bytes()
            rows = text.decode("ascii").split("\n")
            self.assertLessEqual(len(rows) - 1, 399, path)
            self.assertLessEqual(max(len(row) for row in rows), 120, path)
            self.assertEqual({sign for sign in text if not 32 <= sign < 127} - {10}, set(), path)
            self.assertIsNone(WORDS.search(text.decode("ascii")), path)
        for place, node in walk():
            if isinstance(node, ast.FunctionDef):
                self.assertLessEqual(node.end_lineno - node.lineno + 1, 40, place)

    def test_nodes(self):
        for place, node in walk():
            self.assertIn(node.__class__.__name__, NODES, place)
            if isinstance(node, (ast.FunctionDef, ast.ClassDef)):
                self.assertEqual(node.decorator_list, [], place)
            if isinstance(node, (ast.For, ast.While)):
                self.assertEqual(node.orelse, [], place)
            if isinstance(node, ast.Assign):
                self.assertEqual(len(node.targets), 1, place)
            if isinstance(node, ast.ListComp):
                self.assertEqual(len(node.generators), 1, place)
                self.assertLessEqual(len(node.generators[0].ifs), 1, place)
            if isinstance(node, ast.Constant):
                self.assertIn(node.value.__class__, (int, str, bool, None.__class__), place)

    def test_imports(self):
        for place, node in walk():
            if isinstance(node, ast.ImportFrom):
                self.assertEqual(node.level, 0, place)
                self.assertTrue(node.module.startswith("vectordelivery."), place)
                self.assertEqual([alias for alias in node.names if alias.name == "*" or alias.asname], [], place)

    def test_every_file_tells_what_it_is(self):
        for name, tree in trees():
            self.assertIsNotNone(ast.get_docstring(tree), name)

    def test_names(self):
        for place, name in bound_names():
            self.assertRegex(name, r"^([A-Za-z][A-Za-z0-9_]*|__init__)$", place)
            self.assertNotIn(name, dir(builtins), place)

    def test_names_that_are_read(self):
        own = {name for _, name in bound_names()}
        for _, node in walk():
            if isinstance(node, ast.ImportFrom):
                own |= {alias.name for alias in node.names}
        for place, node in walk():
            if isinstance(node, ast.Name):
                self.assertIn(node.id, own | BUILTINS, place)
            if isinstance(node, ast.Attribute):
                self.assertIn(node.attr, own | METHODS, place)

    def test_no_name_is_a_method_in_one_class_and_a_value_in_another(self):
        methods, values = set(), set()
        for _, node in walk():
            if isinstance(node, ast.ClassDef):
                names = [part.name for part in node.body if isinstance(part, ast.FunctionDef)]
                self.assertEqual(len(names), len(set(names)), node.name)
                methods |= set(names)
            if isinstance(node, ast.Attribute) and isinstance(node.ctx, ast.Store):
                values.add(node.attr)
        self.assertEqual(methods & values, set())
        self.assertEqual((methods | values) & METHODS, set())

    def test_the_interface_is_written_where_its_name_tells(self):
        places = [
            (name, [argument.arg for argument in node.args.args], node.args.defaults)
            for name, tree in trees() for node in tree.body
            if isinstance(node, (ast.FunctionDef, ast.ClassDef)) and node.name == "answers"
        ]
        self.assertEqual(places, [("replicas.py", ["calls"], [])])


if __name__ == "__main__":
    unittest.main()

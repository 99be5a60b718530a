"""The package's own files keep to the part of Python that LANGUAGE.md tells; each check names its rules."""

import ast
import builtins
import pathlib
import re
import unittest

PACKAGE = pathlib.Path(__file__).resolve().parent.parent / "solidsdrawn"

NODES = set("""
    Module FunctionDef ClassDef Return Assign AugAssign For While If Raise Try ExceptHandler Expr Pass Break Continue
    ImportFrom alias arguments arg BoolOp And Or BinOp Add Sub Mult FloorDiv Mod Pow LShift RShift BitOr BitXor BitAnd
    UnaryOp Not USub UAdd Invert Lambda IfExp Dict Set List Tuple ListComp comprehension Compare Eq NotEq Lt LtE Gt GtE
    Is IsNot In NotIn Call keyword JoinedStr FormattedValue Constant Attribute Subscript Slice Name Load Store
""".split())
BUILT_IN = set("""
    len range enumerate zip min max sum abs sorted reversed int str bool list tuple dict set frozenset isinstance ord
    repr any all divmod Exception ValueError TypeError KeyError IndexError LookupError ZeroDivisionError
    ArithmeticError OverflowError RuntimeError NotImplementedError AttributeError StopIteration
""".split())
METHODS = set("""
    append clear copy count endswith extend find get index insert isalnum isalpha isdigit islower isspace isupper items
    join keys ljust lower lstrip partition pop remove replace reverse rfind rjust rpartition rsplit rstrip setdefault
    split splitlines startswith strip update upper values zfill bit_length
""".split())
WORDS = re.compile(
    r"\b(type|typing|typing_extensions|enum|Enum|IntEnum|StrEnum|Flag|IntFlag|Generic|Protocol|ABC|ABCMeta|namedtuple"
    r"|NamedTuple|TypedDict|TYPE_CHECKING|abstractmethod)\b|dataclass|overload|contextmanager")
UNUSED = set("register mro elements open input version_info with_traceback add_note format format_map".split())
CONSTANTS = (int, str, bool, type(None))


def sources():
    return sorted(path for path in PACKAGE.rglob("*") if "__pycache__" not in path.parts)


def trees():
    return [(path, ast.parse(path.read_text(encoding="ascii"))) for path in sources()]


def nodes(kind):
    return [(path, node) for path, tree in trees() for node in ast.walk(tree) if isinstance(node, kind)]


def top_names(tree):
    names = []
    for node in tree.body:
        if isinstance(node, (ast.FunctionDef, ast.ClassDef)):
            names.append(node.name)
        elif isinstance(node, ast.ImportFrom):
            names.extend(alias.name for alias in node.names)
        elif isinstance(node, ast.Assign):
            names.extend(target.id for target in node.targets)
    return names


def is_plain(node, functions):
    if isinstance(node, ast.UnaryOp) and isinstance(node.op, ast.USub):
        node = node.operand
    if isinstance(node, (ast.List, ast.Tuple)):
        return all(is_plain(part, functions) for part in node.elts)
    if isinstance(node, ast.Dict):
        return all(is_plain(part, functions) for part in node.keys + node.values)
    return isinstance(node, ast.Constant) or isinstance(node, ast.Name) and node.id in functions


class Files(unittest.TestCase):
    def test_names_and_signs(self):
        """L1, L10, L14, L17"""
        self.assertIn(PACKAGE / "__init__.py", sources())
        for path in sources():
            self.assertRegex(path.name, r"^(__init__|[a-z][a-z0-9_]*)\.py$")
            self.assertNotIn(path.stem, dir(builtins))
            text = path.read_text(encoding="ascii")
            self.assertRegex(text, r"^[ -~\n]*$")
            self.assertIsNone(WORDS.search(text), path)
            rows = text.splitlines()
            self.assertLessEqual(len(rows), 400, path)
            self.assertLessEqual(max(len(one) for one in rows), 120, path)

    def test_imports(self):
        """L2, L16"""
        drawn = {}
        for path, tree in trees():
            drawn[path.stem] = []
            for node in [node for node in ast.walk(tree) if isinstance(node, (ast.Import, ast.ImportFrom))]:
                self.assertIsInstance(node, ast.ImportFrom)
                self.assertIn(node, tree.body)
                self.assertEqual(node.level, 0)
                self.assertRegex(node.module, r"^solidsdrawn\.[a-z_]+$")
                stem = node.module.split(".")[1]
                drawn[path.stem].append(stem)
                defined = ast.parse((PACKAGE / (stem + ".py")).read_text())
                for alias in node.names:
                    self.assertIsNone(alias.asname)
                    self.assertIn(alias.name, [one.name for one in defined.body if hasattr(one, "name")])
        while drawn:
            free = [stem for stem in drawn if not set(drawn[stem]) & set(drawn)]
            self.assertNotEqual(free, [], "files that draw from one another")
            for stem in free:
                drawn.pop(stem)


class Top(unittest.TestCase):
    def test_what_stands_there(self):
        """L3, L15"""
        for path, tree in trees():
            functions = []
            for place, node in enumerate(tree.body):
                if isinstance(node, ast.FunctionDef):
                    functions.append(node.name)
                elif isinstance(node, ast.Assign):
                    self.assertTrue(is_plain(node.value, functions), (path, node.lineno))
                elif isinstance(node, ast.Expr):
                    self.assertEqual(place, 0, path)
                else:
                    self.assertIsInstance(node, (ast.ImportFrom, ast.ClassDef))
            names = top_names(tree)
            self.assertEqual(len(names), len(set(names)), path)


class Parts(unittest.TestCase):
    def test_nodes_and_constants(self):
        """L6, L7, L27"""
        for path, node in nodes(ast.AST):
            self.assertIn(type(node).__name__, NODES, (path, getattr(node, "lineno", 0)))
        for path, node in nodes(ast.Constant):
            self.assertIsInstance(node.value, CONSTANTS)
        for path, node in nodes(ast.BinOp):
            if isinstance(node.op, ast.Pow):
                self.assertIn(getattr(node.right, "value", None), range(65))
        for path, node in nodes(ast.Assign):
            self.assertEqual(len(node.targets), 1)
        for path, node in nodes((ast.For, ast.While)):
            self.assertEqual(node.orelse, [])
        for path, node in nodes(ast.Try):
            self.assertEqual(node.finalbody, [])
        for path, node in nodes(ast.ListComp):
            self.assertEqual(len(node.generators), 1)
            self.assertLessEqual(len(node.generators[0].ifs), 1)

    def test_expressions_by_themselves_are_calls(self):
        """L6"""
        for path, tree in trees():
            for node in ast.walk(tree):
                if isinstance(node, ast.Expr) and node is not tree.body[0]:
                    self.assertIsInstance(node.value, ast.Call, (path, node.lineno))

    def test_functions(self):
        """L4, L10, L21"""
        for path, node in nodes(ast.FunctionDef):
            self.assertLessEqual(node.end_lineno - node.lineno + 1, 40, (path, node.name))
            self.assertEqual(node.decorator_list, [])
            self.assertIsNone(node.returns)
            given = node.args
            self.assertEqual((given.vararg, given.kwarg, given.kwonlyargs, given.posonlyargs), (None, None, [], []))
            self.assertEqual([one for one in given.args if one.annotation is not None], [])

    def test_classes(self):
        """L5, L18"""
        methods, values = set(), set()
        for path, node in nodes(ast.ClassDef):
            self.assertEqual((node.decorator_list, node.keywords), ([], []))
            self.assertLessEqual(len(node.bases), 1)
            for part in node.body:
                self.assertIsInstance(part, (ast.FunctionDef, ast.Pass))
            methods.update(part.name for part in node.body if isinstance(part, ast.FunctionDef))
        for path, node in nodes(ast.Attribute):
            if isinstance(node.ctx, ast.Store):
                values.add(node.attr)
        self.assertEqual(methods & values, set())
        for name in (methods | values) - {"__init__"}:
            for value in ("", 0, [], {}, set(), b"", ()):
                self.assertFalse(hasattr(value, name), name)

    def test_identity(self):
        """L20"""
        for path, node in nodes(ast.Compare):
            for op, right in zip(node.ops, node.comparators):
                if isinstance(op, (ast.Is, ast.IsNot)):
                    self.assertIn(getattr(right, "value", 0), (None, True, False))


class Names(unittest.TestCase):
    def test_plain_ones(self):
        """L8, L12, L15, L17"""
        for path, tree in trees():
            outside = {alias.name for node in tree.body if isinstance(node, ast.ImportFrom) for alias in node.names}
            outside |= {node.name for node in tree.body if isinstance(node, ast.ClassDef)}
            for node in ast.walk(tree):
                bound = None
                if isinstance(node, ast.arg):
                    bound = node.arg
                elif isinstance(node, ast.Name) and isinstance(node.ctx, ast.Store):
                    bound = node.id
                if bound is not None:
                    self.assertRegex(bound, r"^[A-Za-z][A-Za-z0-9_]*$")
                    self.assertNotIn(bound, dir(builtins), path)
                    self.assertNotIn(bound, outside, path)
                    self.assertNotIn(bound, UNUSED)

    def test_names_that_are_read(self):
        """L8"""
        for path, tree in trees():
            known = set(top_names(tree)) | BUILT_IN
            known |= {node.arg for node in ast.walk(tree) if isinstance(node, ast.arg)}
            stored = [node for node in ast.walk(tree) if isinstance(node, ast.Name) and isinstance(node.ctx, ast.Store)]
            known |= {node.id for node in stored}
            for node in ast.walk(tree):
                if isinstance(node, ast.Name):
                    self.assertIn(node.id, known, (path, node.lineno))

    def test_methods_that_are_called(self):
        """L25, L26"""
        own = {node.name for path, node in nodes(ast.FunctionDef)}
        for path, node in nodes(ast.Call):
            if isinstance(node.func, ast.Attribute):
                self.assertIn(node.func.attr, METHODS | own, (path, node.lineno))
        for path, node in nodes(ast.Attribute):
            self.assertNotIn(node.attr, UNUSED)


if __name__ == "__main__":
    unittest.main()

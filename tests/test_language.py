"""The package keeps to the small part of Python that is asked of it (the rules a walk over its files can see)."""

import ast
import builtins
import pathlib
import re
import unittest

PACKAGE = pathlib.Path(__file__).resolve().parent.parent / "letterfall"

NODES = """Module Expr Constant ImportFrom alias FunctionDef arguments arg Return ClassDef Assign AugAssign
    If While For Break Continue Pass Raise Try ExceptHandler Name Load Store Attribute Call keyword Subscript Slice
    Tuple List Dict ListComp comprehension BinOp UnaryOp BoolOp Compare IfExp Lambda JoinedStr FormattedValue
    Add Sub Mult FloorDiv Mod Pow BitAnd BitOr BitXor LShift RShift Invert USub UAdd Not And Or
    Eq NotEq Lt LtE Gt GtE In NotIn Is IsNot""".split()

BUILT_IN = """len range enumerate zip min max sum abs sorted reversed int str bool list tuple dict set frozenset
    isinstance ord repr any all divmod Exception ValueError TypeError KeyError IndexError LookupError
    ZeroDivisionError ArithmeticError OverflowError RuntimeError NotImplementedError AttributeError
    StopIteration""".split()

METHODS = """append clear copy count endswith extend find get index insert isalnum isalpha isdigit islower isspace
    isupper items join keys ljust lower lstrip partition pop remove replace reverse rfind rjust rpartition rsplit
    rstrip setdefault split splitlines startswith strip update upper values zfill bit_length""".split()

WORDS = r"\b(type|typing|typing_extensions|enum|Enum|IntEnum|StrEnum|Flag|IntFlag|Generic|Protocol|ABC|ABCMeta|" \
    r"namedtuple|NamedTuple|TypedDict|TYPE_CHECKING|abstractmethod)\b|dataclass|overload|contextmanager"

WALKED = ("zip", "enumerate", "reversed", "range")
WALKED_METHODS = ("items", "keys", "values")
WALKERS = ("list", "tuple", "dict", "sorted", "sum", "any", "all", "enumerate", "zip")
KEYWORDS = {"sorted": ("key", "reverse"), "min": ("key", "default"), "max": ("key", "default"), "sum": ("start",),
            "enumerate": ("start",), "zip": ("strict",)}
VALUES_LIKE_METHODS = "count index title find get join lower upper split strip copy add".split()


def files():
    return sorted(path for path in PACKAGE.rglob("*") if path.is_file() and "__pycache__" not in path.parts)


def nodes():
    for path in files():
        for node in ast.walk(ast.parse(path.read_text())):
            yield f"{path.name}:{getattr(node, 'lineno', 0)}", node


def trees():
    for path in files():
        yield path.stem, ast.parse(path.read_text())


def with_parents():
    """Each node with what it stands in, and with what that stands in."""
    for stem, tree in trees():
        parents = {}
        for node in ast.walk(tree):
            for child in ast.iter_child_nodes(node):
                parents[child] = node
        for node, parent in parents.items():
            yield f"{stem}:{getattr(node, 'lineno', 0)}", node, parent, parents.get(parent)


def top_names(tree):
    found = []
    for node in tree.body:
        if isinstance(node, (ast.FunctionDef, ast.ClassDef)):
            found.append(node.name)
        elif isinstance(node, ast.Assign):
            found.append(node.targets[0].id)
        elif isinstance(node, ast.ImportFrom):
            found.extend([name.asname or name.name for name in node.names])
    return found


def is_plain(node, functions):
    """Whether a value of a file's top is plain; no list or dict stands within a list or dict."""
    if isinstance(node, ast.Name):
        return node.id in functions
    if isinstance(node, ast.UnaryOp):
        return isinstance(node.op, ast.USub) and isinstance(node.operand, ast.Constant)
    if isinstance(node, ast.Tuple):
        return all(is_plain(one, functions) for one in node.elts)
    return isinstance(node, ast.Constant)


def own_names():
    """The names of the package's own defs, classes, methods and objects' values."""
    found = {"__init__"}
    for place, node in nodes():
        if isinstance(node, (ast.FunctionDef, ast.ClassDef)):
            found.add(node.name)
        if isinstance(node, ast.Attribute) and isinstance(node.ctx, ast.Store):
            found.add(node.attr)
    return found


class Language(unittest.TestCase):
    def test_files(self):
        self.assertIn("page.py", [path.name for path in files()])
        for path in files():
            self.assertRegex(path.name, r"^([a-z][a-z0-9_]*|__init__)\.py$")
            self.assertNotIn(path.stem, dir(builtins))
            self.assertNotRegex(path.stem, r"^(test.*|site|conftest|sitecustomize|usercustomize)$")

    def test_sizes_and_signs(self):
        for path in files():
            lines = path.read_text().split("\n")
            self.assertLessEqual(len(lines), 400, path)
            for number, line in enumerate(lines, start=1):
                self.assertRegex(line, r"^[ -~]{0,120}$", f"{path.name}:{number}")
                self.assertIsNone(re.search(WORDS, line), f"{path.name}:{number}")
        for place, node in nodes():
            if isinstance(node, ast.FunctionDef):
                self.assertLessEqual(node.end_lineno - node.lineno + 1, 40, place)

    def test_imports(self):
        for place, node in nodes():
            if isinstance(node, ast.ImportFrom):
                self.assertEqual(node.level, 0, place)
                self.assertRegex(node.module, r"^letterfall\.[a-z0-9_]+$", place)
                self.assertNotIn("*", [name.name for name in node.names], place)

    def test_statements_and_expressions(self):
        for place, node in nodes():
            self.assertIn(type(node).__name__, NODES, place)
            if isinstance(node, ast.Constant):
                self.assertIn(type(node.value), (int, str, bool, type(None)), place)
            if isinstance(node, (ast.FunctionDef, ast.ClassDef)):
                self.assertEqual(node.decorator_list, [], place)
            if isinstance(node, ast.Assign):
                self.assertEqual(len(node.targets), 1, place)
            if isinstance(node, (ast.For, ast.While)):
                self.assertEqual(node.orelse, [], place)
            if isinstance(node, ast.Try):
                self.assertEqual(node.finalbody, [], place)

    def test_names(self):
        foreign = set(dir(builtins)) - set(BUILT_IN)
        for place, node in nodes():
            if isinstance(node, ast.Name):
                self.assertRegex(node.id, r"^[A-Za-z][A-Za-z0-9_]*$", place)
                self.assertNotIn(node.id, foreign, place)
            if isinstance(node, ast.Name) and isinstance(node.ctx, ast.Store):
                self.assertNotIn(node.id, dir(builtins), place)
            if isinstance(node, ast.arg):
                self.assertNotIn(node.arg, dir(builtins), place)

    def test_methods(self):
        allowed = set(METHODS) | own_names()
        for place, node in nodes():
            if isinstance(node, ast.Attribute):
                self.assertIn(node.attr, allowed, place)

    def test_the_top_of_a_file(self):
        for stem, tree in trees():
            self.assertEqual(len(top_names(tree)), len(set(top_names(tree))), stem)
            self.assertIsNotNone(ast.get_docstring(tree), stem)
            for node in tree.body[1:]:
                self.assertIsInstance(node, (ast.ImportFrom, ast.FunctionDef, ast.ClassDef, ast.Assign), stem)
                if not isinstance(node, ast.Assign):
                    continue
                parts = [node.value]
                if isinstance(node.value, ast.List):
                    parts = node.value.elts
                elif isinstance(node.value, ast.Dict):
                    parts = node.value.keys + node.value.values
                self.assertTrue(all(is_plain(part, top_names(tree)) for part in parts), f"{stem}:{node.lineno}")

    def test_tables_are_only_read(self):
        tables = {stem: [node.targets[0].id for node in tree.body if isinstance(node, ast.Assign)
                         and isinstance(node.value, (ast.List, ast.Dict))] for stem, tree in trees()}
        kept = [name for names in tables.values() for name in names]
        for place, node, parent, above in with_parents():
            if isinstance(node, ast.Name) and node.id in kept and isinstance(node.ctx, ast.Load):
                right = isinstance(parent, ast.Compare) or isinstance(parent, ast.For) and parent.iter is node
                right = right or isinstance(parent, ast.Subscript) and isinstance(parent.ctx, ast.Load)
                right = right or isinstance(parent, ast.Attribute) and parent.attr == "get"
                self.assertTrue(right, place)

    def test_files_do_not_draw_from_one_another(self):
        drawn = {}
        defined = {stem: [node.name if hasattr(node, "name") else node.targets[0].id for node in tree.body
                          if isinstance(node, (ast.FunctionDef, ast.ClassDef, ast.Assign))] for stem, tree in trees()}
        for stem, tree in trees():
            drawn[stem] = []
            for node in tree.body:
                if isinstance(node, ast.ImportFrom):
                    drawn[stem].append(node.module.split(".")[1])
                    for name in node.names:
                        self.assertIn(name.name, defined[drawn[stem][-1]], stem)
        while drawn:
            free = [stem for stem in drawn if not any(other in drawn for other in drawn[stem])]
            self.assertNotEqual(free, [], drawn)
            for stem in free:
                drawn.pop(stem)

    def test_no_local_is_called_like_a_class_or_an_import(self):
        for stem, tree in trees():
            taken = [node.name for node in tree.body if isinstance(node, ast.ClassDef)]
            for node in tree.body:
                if isinstance(node, ast.ImportFrom):
                    taken.extend([name.name for name in node.names])
            for node in ast.walk(tree):
                if isinstance(node, ast.arg):
                    self.assertNotIn(node.arg, taken, f"{stem}:{node.lineno}")
                if isinstance(node, ast.Name) and isinstance(node.ctx, ast.Store):
                    self.assertNotIn(node.id, taken, f"{stem}:{node.lineno}")

    def test_methods_and_values_of_classes(self):
        methods, values = [], []
        for place, node in nodes():
            if isinstance(node, ast.ClassDef):
                own = [one.name for one in node.body if isinstance(one, ast.FunctionDef)]
                self.assertEqual(len(own), len(set(own)), place)
                methods.extend(own)
            if isinstance(node, ast.Attribute) and isinstance(node.ctx, ast.Store):
                values.append(node.attr)
        self.assertEqual(set(methods) & set(values), set())
        pythons = {name for kind in (str, int, list, dict, set, bytes, tuple) for name in dir(kind)}
        self.assertEqual((set(values) & pythons) - set(VALUES_LIKE_METHODS), set())
        self.assertEqual((set(methods) & pythons) - set(METHODS) - {"__init__", "add", "discard"}, set())

    def test_is_and_powers_and_texts(self):
        for place, node, parent, above in with_parents():
            if isinstance(node, ast.Compare) and any(isinstance(op, (ast.Is, ast.IsNot)) for op in node.ops):
                self.assertIsInstance(node.comparators[0], ast.Constant, place)
            if isinstance(node, ast.BinOp) and isinstance(node.op, ast.Pow):
                self.assertIsInstance(node.right, ast.Constant, place)
                self.assertIn(node.right.value, range(65), place)
            if isinstance(node, ast.Constant) and isinstance(node.value, str):
                self.assertNotIn("%", node.value, place)
            if isinstance(node, (ast.arg, ast.FunctionDef)):
                self.assertIsNone(getattr(node, "annotation", None) or getattr(node, "returns", None), place)

    def test_errors(self):
        for place, node in nodes():
            if isinstance(node, ast.ExceptHandler):
                self.assertIn(node.type.id, ("Refusal", "WrongLine"), place)
            if isinstance(node, ast.Raise):
                self.assertIsInstance(node.exc, ast.Call, place)

    def test_keywords(self):
        for place, node in nodes():
            if isinstance(node, ast.Call) and node.keywords:
                name = node.func.id if isinstance(node.func, ast.Name) else ""
                for keyword in node.keywords:
                    self.assertIn(keyword.arg, KEYWORDS.get(name, ()), place)

    def test_walked_on_the_spot(self):
        for place, node, parent, above in with_parents():
            if not isinstance(node, ast.Call):
                continue
            named = isinstance(node.func, ast.Name) and node.func.id in WALKED
            if not named and not (isinstance(node.func, ast.Attribute) and node.func.attr in WALKED_METHODS):
                continue
            right = isinstance(parent, (ast.For, ast.comprehension)) and parent.iter is node
            if isinstance(parent, ast.Call) and isinstance(parent.func, ast.Name):
                right = right or parent.func.id in WALKERS and parent.args[0] is node
                right = right or parent.func.id in ("min", "max") and parent.args == [node]
            self.assertTrue(right, place)

    def test_pythons_own_are_called(self):
        for place, node, parent, above in with_parents():
            if isinstance(node, ast.Name) and node.id in BUILT_IN and node.id not in ("Exception", "ValueError"):
                self.assertTrue(isinstance(parent, ast.Call) and parent.func is node, place)
            if isinstance(node, ast.Attribute) and node.attr in METHODS and node.attr not in VALUES_LIKE_METHODS:
                self.assertTrue(isinstance(parent, ast.Call) and parent.func is node, place)

    def test_no_sets(self):
        for place, node in nodes():
            if isinstance(node, ast.Name):
                self.assertNotIn(node.id, ("set", "frozenset", "chr"), place)


if __name__ == "__main__":
    unittest.main()

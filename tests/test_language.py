"""Those rules of ../shared/LANGUAGE.md that are easily seen in the files; the others are kept by reading them."""

import ast
import builtins
import pathlib
import re
import unittest

PACKAGE = pathlib.Path(__file__).resolve().parent.parent / "pressedtables"
BUILTINS = set("""
    len range enumerate zip min max sum abs sorted reversed int str bool bytes list tuple dict set frozenset isinstance
    ord repr any all divmod Exception ValueError TypeError KeyError IndexError LookupError ZeroDivisionError
    ArithmeticError OverflowError RuntimeError NotImplementedError AttributeError StopIteration NotImplemented super
    property staticmethod classmethod
""".split())
BARRED = re.compile(
    r"\b(type|typing|typing_extensions|enum|Enum|IntEnum|StrEnum|Flag|IntFlag|Generic|Protocol|ABC|ABCMeta|namedtuple"
    r"|NamedTuple|TypedDict|TYPE_CHECKING|abstractmethod)\b|dataclass|overload|contextmanager"
)

# The classes of the interface that have methods.
METHODS = {
    "Pressed": {"next", "run", "machine", "size", "picture", "tidy", "change"},
    "Finder": {"found", "suffixes", "machine", "many_steps"},
}


def files():
    return [(path.name, path.read_text("utf-8")) for path in sorted(PACKAGE.glob("*.py"))]


def nodes(kind):
    """All nodes of that kind, with where they stand."""
    for name, text in files():
        for node in ast.walk(ast.parse(text)):
            if isinstance(node, kind):
                yield f"{name}:{getattr(node, 'lineno', 0)}", node


def parents():
    """All pairs of a node and one directly in it, with where the inner one stands."""
    for where, node in nodes(ast.AST):
        for inner in ast.iter_child_nodes(node):
            yield where, node, inner


def called(node):
    """The name of what is called, if a name or a method is."""
    if not isinstance(node, ast.Call):
        return None
    return getattr(node.func, "id", getattr(node.func, "attr", None))


def defined(text):
    """The names that a file binds at module level, but by imports."""
    for node in ast.parse(text).body:
        if isinstance(node, (ast.FunctionDef, ast.ClassDef)):
            yield node.name
        elif isinstance(node, ast.Assign):
            yield from (target.id for target in node.targets)


def imported(text):
    """The pairs of a file and a name that are imported."""
    for node in ast.parse(text).body:
        if isinstance(node, ast.ImportFrom):
            yield from ((node.module.split(".")[-1] + ".py", alias.name) for alias in node.names)


class TestLanguage(unittest.TestCase):
    def test_files(self):
        for path in PACKAGE.iterdir():
            if path.name != "__pycache__":
                self.assertRegex(path.name, r"^[a-z0-9_]+\.py$")

    def test_characters_and_words(self):
        for name, text in files():
            self.assertRegex(text, r"\A[ -~\n]*\Z", name)
            self.assertIsNone(BARRED.search(text), name)

    def test_sizes(self):
        for name, text in files():
            self.assertLessEqual(len(text.splitlines()), 400, name)
            self.assertLessEqual(max(map(len, text.splitlines())), 120, name)
        for where, node in nodes(ast.FunctionDef):
            self.assertLessEqual(node.end_lineno - node.lineno + 1, 40, where)

    def test_imports(self):
        for where, node in nodes((ast.Import, ast.ImportFrom)):
            self.assertIsInstance(node, ast.ImportFrom, where)
            self.assertEqual(node.level, 0, where)
            self.assertRegex(node.module, r"^pressedtables\.", where)
            self.assertNotIn("*", [alias.name for alias in node.names], where)

    def test_imports_name_the_file_that_defines_the_name(self):
        texts = dict(files())
        for name, text in texts.items():
            names = [one for _, one in imported(text)] + list(defined(text))
            self.assertEqual(len(names), len(set(names)), name)
            for other, one in imported(text):
                self.assertIn(one, list(defined(texts[other])), name)

    def test_no_files_import_from_each_other(self):
        behind = {name: {other for other, _ in imported(text)} for name, text in files()}
        while behind:
            free = {name for name in behind if not behind[name] & set(behind)}
            self.assertTrue(free, f"a ring among {sorted(behind)}")
            behind = {name: behind[name] for name in behind if name not in free}

    def test_names(self):
        for name, text in files():
            taken = {one for _, one in imported(text)} | set(dir(builtins))
            tree = ast.parse(text)
            taken |= {node.name for node in tree.body if isinstance(node, ast.ClassDef)}
            for node in ast.walk(tree):
                if isinstance(node, ast.arg) or isinstance(node, ast.Name) and isinstance(node.ctx, ast.Store):
                    one = getattr(node, "arg", getattr(node, "id", ""))
                    self.assertNotIn(one, taken, f"{name}:{node.lineno}")
                    self.assertFalse(one.startswith("_"), f"{name}:{node.lineno}")

    def test_no_name_is_a_method_and_an_attribute(self):
        methods = {one.name for _, node in nodes(ast.ClassDef) for one in node.body if isinstance(one, ast.FunctionDef)}
        for where, node in nodes(ast.Attribute):
            if isinstance(node.ctx, ast.Store):
                self.assertNotIn(node.attr, methods, where)

    def test_listed_methods_stand_in_their_class(self):
        classes = {node.name: node for _, node in nodes(ast.ClassDef)}
        for name, listed in METHODS.items():
            self.assertLessEqual(listed, {one.name for one in classes[name].body if isinstance(one, ast.FunctionDef)})

    def test_statements(self):
        barred = (ast.Global, ast.AsyncFunctionDef, ast.AsyncFor, ast.AsyncWith, ast.Await, ast.Import)
        for where, node in nodes(barred):
            self.fail(where)

    def test_iterated_at_once(self):
        makers = ("zip", "enumerate", "reversed", "range", "items", "keys", "values")
        takers = ("list", "tuple", "dict", "sorted", "sum", "any", "all", "enumerate", "zip", "bytes", "min", "max")
        for where, node, inner in parents():
            if called(inner) in makers and not isinstance(node, (ast.For, ast.comprehension)):
                self.assertIn(called(node), takers, where)
            if isinstance(inner, ast.GeneratorExp):
                self.assertIn(called(node), (*takers[:7], "min", "max", "join"), where)

    def test_no_stored_sets_but_plain_ones(self):
        for where, node, inner in parents():
            if isinstance(inner, (ast.Set, ast.SetComp)) or called(inner) in ("set", "frozenset"):
                self.assertTrue(isinstance(node, (ast.Compare, ast.Assign)) or called(node) in ("sorted", "len"), where)

    def test_builtins(self):
        for where, node in nodes(ast.Name):
            if hasattr(builtins, node.id):
                self.assertIn(node.id, BUILTINS, where)
                self.assertIsInstance(node.ctx, ast.Load, where)

    def test_is(self):
        for where, node in nodes(ast.Compare):
            for sign, right in zip(node.ops, node.comparators):
                if isinstance(sign, (ast.Is, ast.IsNot)):
                    self.assertIsInstance(right, ast.Constant, where)
                    self.assertIn(repr(right.value), ("None", "True", "False"), where)

    def test_no_floats_and_no_percent_signs(self):
        for where, node in nodes(ast.Constant):
            self.assertNotIsInstance(node.value, float, where)
            self.assertNotIn("%", str(node.value), where)
        for where, node in nodes(ast.BinOp):
            self.assertNotIsInstance(node.op, ast.Div, where)


if __name__ == "__main__":
    unittest.main()

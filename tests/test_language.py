"""Rules of the language that can be read off the package's files."""

import ast
import builtins
import pathlib
import re
import unittest

FOLDER = pathlib.Path(__file__).resolve().parent.parent / "twoeditions"
STATEMENTS = (ast.Assign, ast.AugAssign, ast.If, ast.While, ast.For, ast.Return, ast.Break, ast.Continue, ast.Pass,
              ast.Raise, ast.Try, ast.Expr, ast.FunctionDef, ast.ClassDef, ast.ImportFrom)
EXPRESSIONS = (ast.Constant, ast.List, ast.Tuple, ast.Dict, ast.Set, ast.BinOp, ast.UnaryOp, ast.BoolOp, ast.Compare,
               ast.IfExp, ast.Call, ast.Attribute, ast.Subscript, ast.Slice, ast.ListComp, ast.JoinedStr,
               ast.FormattedValue, ast.Lambda, ast.Name)
OWN_NAMES = set("""
    len range enumerate zip min max sum abs sorted reversed int str bool list tuple dict set frozenset isinstance ord
    repr any all divmod Exception ValueError TypeError KeyError IndexError LookupError ZeroDivisionError
    ArithmeticError OverflowError RuntimeError NotImplementedError AttributeError StopIteration""".split())
BARRED_WORDS = """
    type typing typing_extensions enum Enum IntEnum StrEnum Flag IntFlag Generic Protocol ABC ABCMeta namedtuple
    NamedTuple TypedDict TYPE_CHECKING abstractmethod""".split()
METHODS = """
    append clear copy count endswith extend find get index insert isalnum isalpha isdigit islower isspace isupper items
    join keys ljust lower lstrip partition pop remove replace reverse rfind rjust rpartition rsplit rstrip setdefault
    split splitlines startswith strip update upper values zfill bit_length""".split()
WALKED = ("zip", "enumerate", "reversed", "range")
WALKERS = ("list", "tuple", "dict", "sorted", "sum", "any", "all", "enumerate", "zip", "min", "max")
BARRED_PARTS = ("dataclass", "overload", "contextmanager")
UNDERSCORED = ("__init__", "__eq__", "__repr__", "__str__", "__len__")


def sources():
    return sorted(FOLDER.glob("**/*.py"))


def nodes(path):
    return list(ast.walk(ast.parse(path.read_text())))


def all_nodes():
    return [node for path in sources() for node in nodes(path)]


def own_methods():
    return {part.name for node in all_nodes() if isinstance(node, ast.ClassDef)
            for part in node.body if isinstance(part, ast.FunctionDef)}


def drawn_from(path):
    return [FOLDER / (node.module.split(".")[1] + ".py") for node in nodes(path) if isinstance(node, ast.ImportFrom)]


def called_name(node):
    return node.func.id if isinstance(node, ast.Call) and isinstance(node.func, ast.Name) else None


class LanguageTest(unittest.TestCase):
    def test_files(self):
        self.assertTrue((FOLDER / "__init__.py").is_file())
        for path in FOLDER.iterdir():
            if path.name != "__pycache__":
                self.assertRegex(path.name, r"^(__init__|[a-z][a-z0-9_]*)\.py$")

    def test_signs_and_sizes(self):
        for path in sources():
            text = path.read_bytes().decode("ascii")
            self.assertRegex(text, r"\A[ -~\n]*\Z", path)
            rows = text.splitlines()
            self.assertLessEqual(len(rows), 400, path)
            self.assertLessEqual(max(map(len, rows)), 120, path)
            for node in nodes(path):
                if isinstance(node, ast.FunctionDef):
                    self.assertLessEqual(node.end_lineno - node.lineno + 1, 40, node.name)

    def test_barred_words(self):
        for path in sources():
            text = path.read_text()
            for word in BARRED_WORDS:
                self.assertIsNone(re.search(rf"\b{word}\b", text), (path, word))
            for part in BARRED_PARTS:
                self.assertNotIn(part, text, path)

    def test_statements_and_expressions(self):
        for path in sources():
            found = nodes(path)
            docstring = found[0].body[0]
            for node in found:
                if isinstance(node, ast.stmt):
                    self.assertIsInstance(node, STATEMENTS, path)
                if isinstance(node, ast.expr):
                    self.assertIsInstance(node, EXPRESSIONS, path)
                if isinstance(node, ast.Expr) and node is not docstring:
                    self.assertIsInstance(node.value, ast.Call, path)
                if isinstance(node, ast.Assign):
                    self.assertEqual(len(node.targets), 1, path)
                    self.assertIsInstance(node.targets[0], (ast.Name, ast.Attribute, ast.Subscript), path)
                if isinstance(node, (ast.Div, ast.MatMult)):
                    self.fail(path)
                if isinstance(node, ast.Constant):
                    self.assertNotIsInstance(node.value, (float, bytes, complex), path)

    def test_imports(self):
        for path in sources():
            for node in nodes(path):
                if isinstance(node, ast.ImportFrom):
                    self.assertEqual(node.level, 0, path)
                    self.assertRegex(node.module, r"^twoeditions\.[a-z]", path)
                    self.assertNotIn("*", [name.name for name in node.names], path)

    def test_no_two_files_draw_from_one_another(self):
        for path in sources():
            reached = drawn_from(path)
            for other in reached:
                self.assertNotEqual(other, path)
                reached += [further for further in drawn_from(other) if further not in reached]

    def test_imports_come_from_where_the_name_is_defined(self):
        for path in sources():
            for node in nodes(path):
                if isinstance(node, ast.ImportFrom):
                    there = ast.parse((FOLDER / (node.module.split(".")[1] + ".py")).read_text()).body
                    defined = [part.name for part in there if isinstance(part, (ast.FunctionDef, ast.ClassDef))]
                    for name in node.names:
                        self.assertIn(name.name, defined, path)

    def test_no_local_is_called_like_a_class_or_an_import(self):
        for path in sources():
            found = nodes(path)
            taken = [node.name for node in found if isinstance(node, (ast.ClassDef, ast.alias))]
            for node in found:
                if isinstance(node, ast.arg):
                    self.assertNotIn(node.arg, taken, path)
                if isinstance(node, ast.Name) and isinstance(node.ctx, ast.Store):
                    self.assertNotIn(node.id, taken, path)

    def test_is_stands_beside_none_true_and_false(self):
        for node in all_nodes():
            if isinstance(node, ast.Compare) and isinstance(node.ops[0], (ast.Is, ast.IsNot)):
                self.assertIn(getattr(node.comparators[0], "value", 0), (None, True, False))
                self.assertEqual(len(node.ops), 1)

    def test_methods(self):
        own = own_methods()
        for node in all_nodes():
            if isinstance(node, ast.Call) and isinstance(node.func, ast.Attribute):
                self.assertIn(node.func.attr, own | set(METHODS))

    def test_no_name_is_a_method_and_a_value(self):
        stored = {node.attr for node in all_nodes() if isinstance(node, ast.Attribute)
                  and isinstance(node.ctx, ast.Store)}
        self.assertEqual(stored & own_methods(), set())

    def test_walked_on_the_spot(self):
        found = all_nodes()
        allowed = [id(node.iter) for node in found if isinstance(node, (ast.For, ast.comprehension))]
        allowed += [id(node.args[0]) for node in found if called_name(node) in WALKERS]
        for node in found:
            if called_name(node) in WALKED:
                self.assertIn(id(node), allowed, node.lineno)

    def test_names(self):
        for path in sources():
            for node in nodes(path):
                if isinstance(node, ast.Name) and hasattr(builtins, node.id):
                    self.assertIn(node.id, OWN_NAMES, path)
                    self.assertIsInstance(node.ctx, ast.Load, path)
                if isinstance(node, ast.arg):
                    self.assertFalse(hasattr(builtins, node.arg), (path, node.arg))
                name = getattr(node, "id", getattr(node, "attr", getattr(node, "name", getattr(node, "arg", None))))
                if isinstance(name, str) and name not in UNDERSCORED:
                    self.assertRegex(name, r"^[A-Za-z][A-Za-z0-9_]*$", path)

    def test_defs_and_classes(self):
        for path in sources():
            for node in nodes(path):
                if isinstance(node, (ast.FunctionDef, ast.ClassDef)):
                    self.assertEqual(node.decorator_list, [], path)
                if isinstance(node, ast.FunctionDef):
                    told = node.args
                    self.assertEqual((told.vararg, told.kwarg, told.kwonlyargs, told.posonlyargs), (None, None, [], []))
                if isinstance(node, ast.ClassDef):
                    self.assertLessEqual(len(node.bases), 1, path)
                    for part in node.body:
                        self.assertIsInstance(part, (ast.FunctionDef, ast.Pass), path)


if __name__ == "__main__":
    unittest.main()

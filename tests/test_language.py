"""The part of Python that the package keeps to, as far as a walk through its files can tell."""

import ast
import builtins
import keyword
import pathlib
import re
import unittest

PACKAGE = pathlib.Path(__file__).resolve().parent.parent / "keystore"

STATEMENTS = (
    ast.Assign, ast.AugAssign, ast.If, ast.While, ast.For, ast.Return, ast.Break, ast.Continue, ast.Pass, ast.Raise,
    ast.Try, ast.Expr, ast.FunctionDef, ast.ClassDef, ast.ImportFrom,
)
EXPRESSIONS = (
    ast.Constant, ast.List, ast.Tuple, ast.Dict, ast.BinOp, ast.UnaryOp, ast.Compare, ast.BoolOp, ast.IfExp, ast.Call,
    ast.Attribute, ast.Subscript, ast.Slice, ast.ListComp, ast.Name, ast.Lambda, ast.JoinedStr, ast.FormattedValue,
)
OWN_NAMES = """len range enumerate zip min max sum abs sorted reversed int str bool list tuple dict set frozenset
isinstance ord repr any all divmod Exception ValueError TypeError KeyError IndexError LookupError ZeroDivisionError
ArithmeticError OverflowError RuntimeError NotImplementedError AttributeError StopIteration""".split()
OWN_METHODS = """append clear copy count endswith extend find get index insert isalnum isalpha isdigit islower isspace
isupper items join keys ljust lower lstrip partition pop remove replace reverse rfind rjust rpartition rsplit rstrip
setdefault split splitlines startswith strip update upper values zfill bit_length""".split()
WORDS_OUT = """type typing typing_extensions enum Enum IntEnum StrEnum Flag IntFlag Generic Protocol ABC ABCMeta
namedtuple NamedTuple TypedDict TYPE_CHECKING abstractmethod""".split()
NAMES_OUT = """register mro elements open input version_info with_traceback add_note format format_map""".split()
TWO_UNDERSCORES = ["__init__", "__eq__", "__repr__", "__str__", "__len__"]


def files():
    return sorted(path for path in PACKAGE.rglob("*") if "__pycache__" not in path.parts)


def trees():
    return [(path, ast.parse(path.read_text("utf-8"))) for path in files()]


def nodes(*kinds):
    return [(path, node) for path, tree in trees() for node in ast.walk(tree) if isinstance(node, kinds)]


def bound_names(node):
    """Names that parameters and locals of a function get."""
    given = node.args
    names = [one.arg for one in given.args]
    return names + [one.id for one in ast.walk(node) if isinstance(one, ast.Name) and isinstance(one.ctx, ast.Store)]


class Files(unittest.TestCase):
    def test_names_and_signs(self):
        self.assertIn(PACKAGE / "__init__.py", files())
        for path in files():
            self.assertRegex(path.name, r"^([a-z][a-z0-9_]*|__init__)\.py$")
            self.assertNotIn(path.stem, dir(builtins) + ["test", "tests", "testing", "site", "conftest"] + WORDS_OUT)
            self.assertRegex(path.read_text("utf-8"), r"\A[ -~\n]*\Z", path)

    def test_sizes(self):
        for path in files():
            lines = path.read_text("utf-8").split("\n")
            self.assertLessEqual(len(lines), 400, path)
            self.assertLessEqual(max(len(line) for line in lines), 120, path)
        for path, node in nodes(ast.FunctionDef):
            self.assertLessEqual(node.end_lineno - node.lineno + 1, 40, (path, node.name))

    def test_words_that_stand_nowhere(self):
        for path in files():
            words = re.findall(r"[A-Za-z0-9_]+", path.read_text("utf-8"))
            for word in words:
                self.assertNotIn(word, WORDS_OUT, path)
                self.assertNotRegex(word, "dataclass|overload|contextmanager", path)


class Forms(unittest.TestCase):
    def test_statements_and_expressions(self):
        for path, node in nodes(ast.stmt):
            self.assertIsInstance(node, STATEMENTS, (path, node.lineno))
        for path, node in nodes(ast.expr):
            self.assertIsInstance(node, EXPRESSIONS, (path, node.lineno))
        for path, node in nodes(ast.Assign):
            self.assertEqual(len(node.targets), 1, (path, node.lineno))
        for path, node in nodes(ast.For, ast.While):
            self.assertEqual(node.orelse, [], (path, node.lineno))
        for path, node in nodes(ast.Div, ast.MatMult):
            self.fail((path, "no such operator"))

    def test_constants(self):
        for path, node in nodes(ast.Constant):
            self.assertIn(type(node.value), (int, str, bool, type(None)), (path, node.lineno))
            if isinstance(node.value, str):
                self.assertNotIn("%", node.value, (path, node.lineno))

    def test_functions(self):
        for path, node in nodes(ast.FunctionDef):
            given = node.args
            where = (path, node.name)
            self.assertEqual(node.decorator_list, [], where)
            self.assertEqual(given.posonlyargs + given.kwonlyargs, [], where)
            self.assertEqual((given.vararg, given.kwarg), (None, None), where)
            self.assertIsNone(node.returns, where)
            self.assertTrue(all(one.annotation is None for one in given.args), where)

    def test_classes(self):
        for path, node in nodes(ast.ClassDef):
            self.assertEqual((node.decorator_list, node.keywords), ([], []), (path, node.name))
            self.assertLessEqual(len(node.bases), 1, (path, node.name))
            for part in node.body:
                self.assertTrue(isinstance(part, ast.FunctionDef) or isinstance(part, ast.Expr), (path, node.name))

    def test_no_name_is_a_method_and_a_value(self):
        methods = [part.name for path, node in nodes(ast.ClassDef) for part in node.body
                   if isinstance(part, ast.FunctionDef)]
        values = [node.attr for path, node in nodes(ast.Attribute) if isinstance(node.ctx, ast.Store)]
        self.assertEqual(set(methods) & set(values), set())

    def test_is_stands_beside_none_true_and_false(self):
        for path, node in nodes(ast.Compare):
            for sign, side in zip(node.ops, node.comparators):
                if isinstance(sign, (ast.Is, ast.IsNot)):
                    self.assertIsInstance(side, ast.Constant, (path, node.lineno))

    def test_keywords_of_calls(self):
        allowed = {"sorted": ["key", "reverse"], "min": ["key", "default"], "max": ["key", "default"], "sum": ["start"],
                   "enumerate": ["start"], "zip": ["strict"]}
        for path, node in nodes(ast.Call):
            for keyword_given in node.keywords:
                self.assertIn(keyword_given.arg, allowed.get(getattr(node.func, "id", None), []), (path, node.lineno))

    def test_comprehensions(self):
        for path, node in nodes(ast.ListComp):
            self.assertEqual(len(node.generators), 1, (path, node.lineno))
            self.assertLessEqual(len(node.generators[0].ifs), 1, (path, node.lineno))


class Names(unittest.TestCase):
    def test_imports(self):
        drawn = {}
        for path, tree in trees():
            for node in tree.body:
                if isinstance(node, ast.ImportFrom):
                    self.assertRegex(node.module, r"^keystore\.[a-z_]+$", path)
                    self.assertEqual(node.level, 0, path)
                    for one in node.names:
                        self.assertIsNone(one.asname, path)
                        self.assertIn(one.name, self.bound_at_top(node.module), (path, one.name))
                    drawn.setdefault("keystore." + path.stem, []).append(node.module)
        done = []
        while drawn:
            free = [module for module in drawn if not set(drawn[module]) & set(drawn)]
            self.assertTrue(free, "files draw from one another")
            done += [(module, drawn.pop(module)) for module in free]

    def bound_at_top(self, module):
        tree = ast.parse((PACKAGE / (module.split(".")[1] + ".py")).read_text("utf-8"))
        names = [node.name for node in tree.body if isinstance(node, (ast.FunctionDef, ast.ClassDef))]
        return names + [node.targets[0].id for node in tree.body if isinstance(node, ast.Assign)]

    def test_top_of_a_module(self):
        for path, tree in trees():
            self.assertIsNotNone(ast.get_docstring(tree), path)
            bound = [node.name for node in tree.body if isinstance(node, (ast.FunctionDef, ast.ClassDef))]
            bound += [node.targets[0].id for node in tree.body if isinstance(node, ast.Assign)]
            self.assertEqual(len(bound), len(set(bound)), path)
            for node in tree.body[1:]:
                self.assertIsInstance(node, (ast.ImportFrom, ast.FunctionDef, ast.ClassDef, ast.Assign), path)

    def test_names_of_pythons_own(self):
        for path, node in nodes(ast.Name):
            if node.id in dir(builtins):
                self.assertIn(node.id, OWN_NAMES, (path, node.lineno))
                self.assertIsInstance(node.ctx, ast.Load, (path, node.lineno))
            self.assertRegex(node.id, r"^[A-Za-z][A-Za-z0-9_]*$", (path, node.lineno))
            self.assertNotIn(node.id, NAMES_OUT, (path, node.lineno))

    def test_names_of_functions_and_what_they_bind(self):
        for path, tree in trees():
            taken = [node.name for node in tree.body if isinstance(node, ast.ClassDef)]
            taken += [one.name for node in tree.body if isinstance(node, ast.ImportFrom) for one in node.names]
            for node in ast.walk(tree):
                if isinstance(node, ast.FunctionDef):
                    if node.name not in TWO_UNDERSCORES:
                        self.assertRegex(node.name, r"^[a-z][a-z0-9_]*$", path)
                    for name in bound_names(node):
                        self.assertNotIn(name, taken + dir(builtins), (path, node.name))
                        self.assertFalse(keyword.issoftkeyword(name), (path, node.name))

    def test_methods(self):
        own = [node.name for path, node in nodes(ast.FunctionDef)]
        values = [node.attr for path, node in nodes(ast.Attribute) if isinstance(node.ctx, ast.Store)]
        for path, node in nodes(ast.Attribute):
            self.assertIn(node.attr, own + values + OWN_METHODS, (path, node.lineno))
            self.assertNotIn(node.attr, NAMES_OUT, (path, node.lineno))
        for name in values:
            for kind in (str, int, list, dict, set, bytes, tuple):
                self.assertNotIn(name, dir(kind))


if __name__ == "__main__":
    unittest.main()

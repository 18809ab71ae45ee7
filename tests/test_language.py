"""The package's files beside the rules of LANGUAGE.md, as far as a walk over their trees can see."""

import ast
import builtins
import re
import unittest
from pathlib import Path

PACKAGE = Path(__file__).resolve().parent.parent / "loosesets"

ERRORS = """Exception ValueError TypeError KeyError IndexError LookupError ZeroDivisionError ArithmeticError
OverflowError RuntimeError NotImplementedError AttributeError StopIteration""".split()
OWN_NAMES = """len range enumerate zip min max sum abs sorted reversed int str bool list tuple dict set frozenset
isinstance ord repr any all divmod""".split() + ERRORS
METHODS = """append clear copy count endswith extend find get index insert isalnum isalpha isdigit islower isspace
isupper items join keys ljust lower lstrip partition pop remove replace reverse rfind rjust rpartition rsplit rstrip
setdefault split splitlines startswith strip update upper values zfill bit_length""".split()
NOT_NAMES = """register mro elements open input version_info with_traceback add_note attrgetter breakpoint builtins
compile copyright credits delattr dir eval exec exit gc getattr globals hasattr help id importlib license locals
methodcaller os quit setattr super type vars sys __name__""".split()
NOT_WORDS = """type typing typing_extensions enum Enum IntEnum StrEnum Flag IntFlag Generic Protocol ABC ABCMeta
namedtuple NamedTuple TypedDict TYPE_CHECKING abstractmethod""".split()
NOT_FILES = """test tests testing site conftest sitecustomize usercustomize""".split() + NOT_WORDS + dir(builtins)

STATEMENTS = (ast.Assign, ast.AugAssign, ast.If, ast.While, ast.For, ast.Return, ast.Break, ast.Continue, ast.Pass,
              ast.Raise, ast.Try, ast.Expr, ast.FunctionDef, ast.ClassDef, ast.ImportFrom)
EXPRESSIONS = (ast.Constant, ast.List, ast.Tuple, ast.Dict, ast.Set, ast.BinOp, ast.UnaryOp, ast.BoolOp, ast.Compare,
               ast.IfExp, ast.Call, ast.Attribute, ast.Subscript, ast.Slice, ast.ListComp, ast.JoinedStr,
               ast.FormattedValue, ast.Name, ast.Lambda)
OPERATORS = (ast.Add, ast.Sub, ast.Mult, ast.FloorDiv, ast.Mod, ast.Pow, ast.BitAnd, ast.BitOr, ast.BitXor,
             ast.LShift, ast.RShift)
WALKED = ("zip", "enumerate", "reversed", "range")
WALKERS = ("list", "tuple", "dict", "sorted", "sum", "any", "all", "enumerate", "zip", "min", "max")


def files():
    return sorted(path for path in PACKAGE.iterdir() if path.name != "__pycache__")


def trees():
    return [(path, ast.parse(path.read_text())) for path in files()]


def nodes(kind):
    return [(path, node) for path, tree in trees() for node in ast.walk(tree) if isinstance(node, kind)]


def own_methods():
    return [inner.name for path, node in nodes(ast.ClassDef) for inner in node.body]


def is_docstring(node):
    return isinstance(node, ast.Expr) and isinstance(node.value, ast.Constant) and isinstance(node.value.value, str)


class Files(unittest.TestCase):
    def test_plain_files_alone(self):
        self.assertIn("bonds.py", [path.name for path in files()])
        for path in files():
            self.assertRegex(path.name, r"^(__init__|[a-z][a-z0-9_]*)\.py$")
            self.assertNotIn(path.stem, NOT_FILES)
            self.assertFalse(path.stem.startswith("test_"))

    def test_signs_and_sizes(self):
        for path in files():
            text = path.read_bytes()
            self.assertTrue(all(sign == 10 or 32 <= sign <= 126 for sign in text), path)
            rows = text.decode().split("\n")
            self.assertLessEqual(len(rows), 401, path)
            self.assertLessEqual(max(len(row) for row in rows), 120, path)
        for path, node in nodes(ast.FunctionDef):
            self.assertLessEqual(node.end_lineno - node.lineno + 1, 40, (path, node.name))

    def test_words_that_stand_nowhere(self):
        for path in files():
            text = path.read_text()
            self.assertFalse(set(re.findall(r"\w+", text)) & set(NOT_WORDS), path)
            self.assertIsNone(re.search("dataclass|overload|contextmanager", text), path)


class Shapes(unittest.TestCase):
    def test_statements_and_expressions(self):
        for path, node in nodes(ast.stmt):
            self.assertIsInstance(node, STATEMENTS, (path, node.lineno))
        for path, node in nodes(ast.expr):
            self.assertIsInstance(node, EXPRESSIONS, (path, node.lineno))
        for path, node in nodes(ast.operator):
            self.assertIsInstance(node, OPERATORS, path)

    def test_top_of_a_file(self):
        for path, tree in trees():
            self.assertTrue(is_docstring(tree.body[0]), path)
            for node in tree.body[1:]:
                self.assertIsInstance(node, (ast.ImportFrom, ast.FunctionDef, ast.ClassDef, ast.Assign), path)
            bound = [node.targets[0].id for node in tree.body if isinstance(node, ast.Assign)]
            bound += [node.name for node in tree.body if isinstance(node, (ast.FunctionDef, ast.ClassDef))]
            bound += [alias.name for node in tree.body if isinstance(node, ast.ImportFrom) for alias in node.names]
            self.assertEqual(len(bound), len(set(bound)), path)

    def test_statements_in_defs(self):
        for path, node in nodes(ast.Expr):
            self.assertTrue(isinstance(node.value, ast.Call) or is_docstring(node) and node.lineno == 1, path)
        for path, node in nodes(ast.Assign):
            self.assertEqual(len(node.targets), 1, (path, node.lineno))
        for path, node in nodes((ast.For, ast.While)):
            self.assertEqual(node.orelse, [], (path, node.lineno))
        for path, node in nodes(ast.ListComp):
            self.assertEqual(len(node.generators), 1, (path, node.lineno))
            self.assertLessEqual(len(node.generators[0].ifs), 1, (path, node.lineno))

    def test_defs_and_classes(self):
        for path, node in nodes(ast.arguments):
            self.assertFalse(node.vararg or node.kwarg or node.kwonlyargs or node.posonlyargs, path)
        for path, node in nodes(ast.arg):
            self.assertIsNone(node.annotation, path)
        for path, node in nodes((ast.FunctionDef, ast.ClassDef)):
            self.assertEqual(node.decorator_list, [], (path, node.name))
        for path, node in nodes(ast.ClassDef):
            self.assertLessEqual(len(node.bases), 1, (path, node.name))
            self.assertTrue(all(isinstance(inner, ast.FunctionDef) for inner in node.body), (path, node.name))

    def test_constants(self):
        for path, node in nodes(ast.Constant):
            self.assertIn(type(node.value), (int, str, bool, type(None)), (path, node.lineno))
            self.assertFalse(isinstance(node.value, str) and "%" in node.value, (path, node.lineno))
        for path, node in nodes(ast.BinOp):
            if isinstance(node.op, ast.Pow):
                self.assertIsInstance(node.right, ast.Constant, (path, node.lineno))

    def test_is_beside_none_alone(self):
        for path, node in nodes(ast.Compare):
            if any(isinstance(op, (ast.Is, ast.IsNot)) for op in node.ops):
                self.assertIn(getattr(node.comparators[0], "value", 0), (None, True, False), (path, node.lineno))


class WhatIsNotThere(unittest.TestCase):
    """Rules with many conditions, kept by doing without: who needs one of these writes its test, too."""

    def test_no_errors_are_raised_or_taken(self):
        self.assertEqual(nodes((ast.Try, ast.Raise)), [])

    def test_no_lambdas_and_no_written_sets(self):
        self.assertEqual(nodes((ast.Lambda, ast.Set)), [])

    def test_no_keywords_at_calls(self):
        self.assertEqual(nodes(ast.keyword), [])

    def test_no_methods_with_two_underscores_but_init(self):
        self.assertEqual({name for name in own_methods() if name.startswith("__")}, {"__init__"})
        for path, node in nodes(ast.FunctionDef):
            if node.name == "__init__":
                self.assertFalse(any(isinstance(inner, ast.Return) for inner in ast.walk(node)), path)

    def test_classes_are_called_alone(self):
        classes = [node.name for path, node in nodes(ast.ClassDef)]
        for path, tree in trees():
            called = [node.func for node in ast.walk(tree) if isinstance(node, ast.Call)]
            for node in ast.walk(tree):
                if isinstance(node, ast.Name) and node.id in classes:
                    self.assertIn(node, called, (path, node.id, node.lineno))

    def test_pythons_own_are_called_alone(self):
        for path, tree in trees():
            called = [node.func for node in ast.walk(tree) if isinstance(node, ast.Call)]
            for node in ast.walk(tree):
                if isinstance(node, ast.Name) and hasattr(builtins, node.id):
                    self.assertIn(node, called, (path, node.id, node.lineno))

    def test_sets_stand_straight_within_sorted_or_len(self):
        for path, tree in trees():
            calls = [node for node in ast.walk(tree) if isinstance(node, ast.Call) and isinstance(node.func, ast.Name)]
            within = [node.args[0] for node in calls if node.func.id in ("sorted", "len")]
            for node in calls:
                if node.func.id in ("set", "frozenset"):
                    self.assertIn(node, within, (path, node.lineno))


class Names(unittest.TestCase):
    def test_imports(self):
        drawn = {path.stem: [] for path in files()}
        for path, node in nodes(ast.ImportFrom):
            self.assertRegex(node.module, r"^loosesets\.[a-z_]+$")
            self.assertEqual(node.level, 0)
            stem = node.module.split(".")[1]
            tree = ast.parse((PACKAGE / f"{stem}.py").read_text())
            defined = [inner.name for inner in tree.body if isinstance(inner, (ast.FunctionDef, ast.ClassDef))]
            defined += [inner.targets[0].id for inner in tree.body if isinstance(inner, ast.Assign)]
            for alias in node.names:
                self.assertIn(alias.name, defined, path)
                self.assertIsNone(alias.asname, path)
            drawn[path.stem].append(stem)
        while drawn:
            free = [stem for stem in drawn if not any(other in drawn for other in drawn[stem])]
            self.assertTrue(free, f"files that draw from one another: {drawn}")
            drawn = {stem: drawn[stem] for stem in drawn if stem not in free}

    def test_names(self):
        for path, node in nodes(ast.Name):
            self.assertNotIn(node.id, NOT_NAMES, (path, node.lineno))
            self.assertRegex(node.id, r"^[A-Za-z]\w*$")
            if isinstance(node.ctx, ast.Store):
                self.assertFalse(hasattr(builtins, node.id), (path, node.id, node.lineno))
            elif hasattr(builtins, node.id):
                self.assertIn(node.id, OWN_NAMES, (path, node.lineno))
        for path, node in nodes(ast.arg):
            self.assertFalse(hasattr(builtins, node.arg), (path, node.arg))
        for path, node in nodes((ast.FunctionDef, ast.ClassDef)):
            if node.name != "__init__":
                self.assertFalse(hasattr(builtins, node.name) or node.name in NOT_NAMES, (path, node.name))
                self.assertRegex(node.name, r"^[A-Za-z]\w*$")

    def test_locals_are_not_called_like_imports_or_classes(self):
        for path, tree in trees():
            taken = [alias.name for node in tree.body if isinstance(node, ast.ImportFrom) for alias in node.names]
            taken += [node.name for node in tree.body if isinstance(node, ast.ClassDef)]
            for node in ast.walk(tree):
                if isinstance(node, ast.arg):
                    self.assertNotIn(node.arg, taken, path)
                if isinstance(node, ast.Name) and isinstance(node.ctx, ast.Store):
                    self.assertNotIn(node.id, taken, (path, node.lineno))

    def test_attributes(self):
        kinds = ("", 0, [], {}, set(), b"")
        own = own_methods()
        for path, node in nodes(ast.Call):
            if isinstance(node.func, ast.Attribute):
                self.assertIn(node.func.attr, METHODS + own, (path, node.lineno))
        for path, node in nodes(ast.Attribute):
            if isinstance(node.ctx, ast.Store):
                self.assertFalse(any(hasattr(kind, node.attr) for kind in kinds), (path, node.attr))
                self.assertNotIn(node.attr, own, path)
        for name in own:
            self.assertFalse(name != "__init__" and any(hasattr(kind, name) for kind in kinds), name)

    def test_walked_at_once_and_sets_not_kept(self):
        for path, tree in trees():
            allowed = []
            for node in ast.walk(tree):
                if isinstance(node, (ast.For, ast.comprehension)):
                    allowed.append(node.iter)
                if isinstance(node, ast.Call) and isinstance(node.func, ast.Name) and node.args:
                    if node.func.id in WALKERS:
                        allowed.append(node.args[0])
                    if node.func.id == "len":
                        allowed.extend(arg for arg in node.args if ast.unparse(arg).startswith("set("))
            for node in ast.walk(tree):
                if isinstance(node, ast.Call) and isinstance(node.func, ast.Name) and node.func.id in WALKED + ("set",):
                    self.assertIn(node, allowed, (path, node.lineno))


if __name__ == "__main__":
    unittest.main()

"""The part of Python that the package keeps to, as far as it can be seen from its files."""

import ast
import builtins
import pathlib
import re
import unittest

PACKAGE = pathlib.Path(__file__).resolve().parent.parent / "linefiles"
FILES = sorted(PACKAGE.rglob("*.py"))

ALLOWED_BUILTINS = set(
    "len range enumerate zip min max sum abs sorted reversed int str bool list tuple dict set frozenset isinstance "
    "ord repr any all divmod Exception ValueError TypeError KeyError IndexError LookupError ZeroDivisionError "
    "ArithmeticError OverflowError RuntimeError NotImplementedError AttributeError StopIteration".split())
PYTHON_METHODS = set(
    "append clear copy count endswith extend find get index insert isalnum isalpha isdigit islower isspace isupper "
    "items join keys ljust lower lstrip partition pop remove replace reverse rfind rjust rpartition rsplit rstrip "
    "setdefault split splitlines startswith strip update upper values zfill bit_length".split())
FORBIDDEN_NAMES = set("register mro elements open input version_info with_traceback add_note format format_map".split())
FORBIDDEN_WORDS = set(
    "type typing typing_extensions enum Enum IntEnum StrEnum Flag IntFlag Generic Protocol ABC ABCMeta namedtuple "
    "NamedTuple TypedDict TYPE_CHECKING abstractmethod".split())
FORBIDDEN_PARTS = ("dataclass", "overload", "contextmanager")
DUNDER_METHODS = {"__init__", "__eq__", "__repr__", "__str__", "__len__"}
STATEMENTS = (ast.Assign, ast.AugAssign, ast.If, ast.While, ast.For, ast.Return, ast.Break, ast.Continue, ast.Pass,
              ast.Raise, ast.Try, ast.Expr, ast.FunctionDef, ast.ClassDef, ast.ImportFrom)
OUT = (ast.Set, ast.SetComp, ast.DictComp, ast.GeneratorExp, ast.NamedExpr, ast.Starred, ast.Div, ast.Pow,
       ast.Is, ast.IsNot, ast.AnnAssign, ast.Lambda)
PYTHON_VALUES = (str, int, list, dict, set, tuple, bytes)


def trees():
    return [(path, ast.parse(path.read_text("utf-8"))) for path in FILES]


def nodes(*kinds):
    return [(path, node) for path, tree in trees() for node in ast.walk(tree) if isinstance(node, kinds)]


class LanguageTest(unittest.TestCase):
    def assertNone(self, found):
        self.assertEqual([str(one) for one in found], [])

    def test_files(self):
        self.assertIn(PACKAGE / "ends.py", FILES)
        self.assertIn(PACKAGE / "__init__.py", FILES)
        others = [path for path in PACKAGE.rglob("*") if path not in FILES and "__pycache__" not in path.parts]
        self.assertNone(others)
        for path in FILES:
            if path.name != "__init__.py":
                self.assertRegex(path.name, r"^[a-z][a-z0-9_]*\.py$")
                self.assertFalse(hasattr(builtins, path.stem))

    def test_size_and_signs(self):
        for path in FILES:
            text = path.read_bytes().decode("utf-8")
            self.assertTrue(all(sign == "\n" or " " <= sign <= "~" for sign in text), path)
            lines = text.split("\n")
            self.assertLessEqual(len(lines), 400, path)
            self.assertLessEqual(max(len(line) for line in lines), 120, path)
        for path, node in nodes(ast.FunctionDef):
            self.assertLessEqual(node.end_lineno - node.lineno + 1, 40, node.name)

    def test_words(self):
        for path in FILES:
            words = re.findall(r"[A-Za-z0-9_]+", path.read_text("utf-8"))
            self.assertNone(sorted(set(words) & FORBIDDEN_WORDS))
            self.assertNone([word for word in words if any(part in word for part in FORBIDDEN_PARTS)])

    def test_imports(self):
        drawn = {}
        for path, tree in trees():
            for node in tree.body:
                if isinstance(node, ast.ImportFrom):
                    self.assertTrue(node.module.startswith("linefiles."), path)
                    self.assertEqual(node.level, 0)
                    self.assertNone([name.name for name in node.names if name.asname or name.name == "*"])
                    source = ast.parse((PACKAGE / (node.module.split(".")[1] + ".py")).read_text("utf-8"))
                    defined = {one.name for one in source.body if isinstance(one, (ast.FunctionDef, ast.ClassDef))}
                    defined |= {one.targets[0].id for one in source.body if isinstance(one, ast.Assign)}
                    self.assertNone([name.name for name in node.names if name.name not in defined])
                    drawn.setdefault(path.stem, set()).add(node.module.split(".")[1])
        for stem in drawn:
            reached, ahead = set(), set(drawn[stem])
            while ahead:
                one = ahead.pop()
                reached.add(one)
                ahead |= drawn.get(one, set()) - reached
            self.assertNotIn(stem, reached)

    def test_all_that_is_drawn_is_used(self):
        for path, tree in trees():
            used = {node.id for node in ast.walk(tree) if isinstance(node, ast.Name)}
            used |= {base.id for node in ast.walk(tree) if isinstance(node, ast.ClassDef) for base in node.bases}
            drawn = [name.name for node in tree.body if isinstance(node, ast.ImportFrom) for name in node.names]
            self.assertNone([f"{path.name} {name}" for name in drawn if name not in used])

    def test_top_of_a_file(self):
        for path, tree in trees():
            bound = []
            self.assertIsNotNone(ast.get_docstring(tree), path)
            for node in tree.body[1:]:
                self.assertIsInstance(node, (ast.Assign, ast.FunctionDef, ast.ClassDef, ast.ImportFrom))
                if isinstance(node, ast.Assign):
                    ast.literal_eval(node.value)
                    bound.append(node.targets[0].id)
                elif isinstance(node, ast.ImportFrom):
                    bound.extend(name.name for name in node.names)
                else:
                    bound.append(node.name)
            self.assertEqual(len(bound), len(set(bound)), path)

    def test_statements(self):
        for path, tree in trees():
            for node in ast.walk(tree):
                if isinstance(node, ast.stmt):
                    self.assertIsInstance(node, STATEMENTS, f"{path}:{node.lineno}")
                if isinstance(node, ast.Assign):
                    self.assertEqual(len(node.targets), 1)
                    self.assertIsInstance(node.targets[0], (ast.Name, ast.Attribute, ast.Subscript))
                if isinstance(node, (ast.For, ast.While)):
                    self.assertEqual(node.orelse, [])
                if isinstance(node, ast.Expr) and node is not tree.body[0]:
                    self.assertIsInstance(node.value, ast.Call)

    def test_expressions(self):
        for path, node in nodes(*OUT):
            if isinstance(node, (ast.Is, ast.IsNot)):
                continue
            self.fail(f"{path}: {ast.dump(node)}")
        for path, node in nodes(ast.Constant):
            self.assertIsInstance(node.value, (int, str, bool, type(None)))
        for path, node in nodes(ast.Compare):
            if any(isinstance(one, (ast.Is, ast.IsNot)) for one in node.ops):
                self.assertIn(node.comparators[0].value, (None, True, False))
        for path, node in nodes(ast.ListComp):
            self.assertEqual(len(node.generators), 1)
            self.assertLessEqual(len(node.generators[0].ifs), 1)

    def test_functions_and_classes(self):
        for path, node in nodes(ast.FunctionDef):
            self.assertEqual(node.decorator_list, [])
            spec = node.args
            self.assertFalse(spec.vararg or spec.kwarg or spec.kwonlyargs or spec.posonlyargs)
            self.assertIsNone(node.returns)
            self.assertNone([argument.arg for argument in spec.args if argument.annotation])
        for path, node in nodes(ast.ClassDef):
            self.assertEqual(node.decorator_list, [])
            self.assertLessEqual(len(node.bases), 1)
            for one in node.body:
                self.assertIsInstance(one, (ast.FunctionDef, ast.Pass))

    def test_names(self):
        for path, tree in trees():
            top = {node.name for node in tree.body if isinstance(node, ast.ClassDef)}
            top |= {name.name for node in tree.body if isinstance(node, ast.ImportFrom) for name in node.names}
            for node in ast.walk(tree):
                if isinstance(node, ast.Name):
                    self.assert_name(node.id, isinstance(node.ctx, ast.Store), top)
                elif isinstance(node, ast.arg):
                    self.assert_name(node.arg, True, top)
                elif isinstance(node, ast.Attribute):
                    self.assertNotIn(node.attr, FORBIDDEN_NAMES)
                    self.assertTrue(node.attr[0] != "_" or node.attr == "__init__", node.attr)
                elif isinstance(node, ast.FunctionDef):
                    self.assertNotIn(node.name, FORBIDDEN_NAMES)
                    self.assertTrue(node.name[0] != "_" or node.name in DUNDER_METHODS, node.name)

    def assert_name(self, name, is_bound, top):
        self.assertFalse(name.startswith("_"), name)
        self.assertNotIn(name, FORBIDDEN_NAMES)
        if is_bound:
            self.assertNotIn(name, top)
            self.assertFalse(hasattr(builtins, name), name)
        elif hasattr(builtins, name):
            self.assertIn(name, ALLOWED_BUILTINS)

    def test_methods_and_values(self):
        methods = {one.name for path, node in nodes(ast.ClassDef) for one in node.body
                   if isinstance(one, ast.FunctionDef)}
        values = {node.attr for path, node in nodes(ast.Attribute) if isinstance(node.ctx, ast.Store)}
        self.assertNone(sorted(methods & values))
        python_own = {name for value in PYTHON_VALUES for name in dir(value) if not name.startswith("__")}
        self.assertNone(sorted((methods | values) & python_own))
        called = {node.func.attr for path, node in nodes(ast.Call) if isinstance(node.func, ast.Attribute)}
        self.assertNone(sorted(called - methods - PYTHON_METHODS))
        for path, node in nodes(ast.Call):
            self.assertEqual(node.keywords, [])

    def test_each_method_once(self):
        for path, node in nodes(ast.ClassDef):
            names = [one.name for one in node.body if isinstance(one, ast.FunctionDef)]
            self.assertEqual(len(names), len(set(names)))


if __name__ == "__main__":
    unittest.main()

"""The package's files keep to the small part of Python that the program is written in."""

import ast
import builtins
import os
import re
import unittest

import fillboard

FOLDER = os.path.dirname(os.path.abspath(fillboard.__file__))

OWN_NAMES = set(
    "len range enumerate zip min max sum abs sorted reversed int str bool list tuple dict set frozenset"
    " isinstance ord repr any all divmod Exception ValueError TypeError KeyError IndexError LookupError"
    " ZeroDivisionError ArithmeticError OverflowError RuntimeError NotImplementedError".split()
)
METHODS = set(
    "append clear copy count endswith extend find get index insert isalnum isalpha isdigit islower isspace"
    " isupper items join keys ljust lower lstrip partition pop remove replace reverse rfind rjust rpartition"
    " rsplit rstrip setdefault split splitlines startswith strip update upper values zfill bit_length".split()
)
WORDS = set(
    "type typing typing_extensions enum Enum IntEnum StrEnum Flag IntFlag Generic Protocol ABC ABCMeta"
    " namedtuple NamedTuple TypedDict TYPE_CHECKING abstractmethod".split()
)
PARTS_OF_WORDS = ("dataclass", "overload", "contextmanager")
NOT_USED = (
    ast.With, ast.Match, ast.Delete, ast.Global, ast.Nonlocal, ast.Assert, ast.Yield, ast.YieldFrom, ast.Await,
    ast.AsyncFunctionDef, ast.AsyncFor, ast.AsyncWith, ast.SetComp, ast.DictComp, ast.GeneratorExp, ast.NamedExpr,
    ast.Starred, ast.Div, ast.Import, ast.AnnAssign,
)


def sources():
    for name in sorted(os.listdir(FOLDER)):
        if name != "__pycache__":
            with open(os.path.join(FOLDER, name), encoding="utf-8", newline="") as file:
                yield name, file.read()


def trees():
    for name, text in sources():
        for node in ast.walk(ast.parse(text)):
            yield name, node


class Files(unittest.TestCase):
    def test_names(self):
        self.assertIn("__init__.py", [name for name, text in sources()])
        for name, text in sources():
            self.assertRegex(name, r"\A([a-z][a-z0-9_]*|__init__)\.py\Z")

    def test_sizes_and_signs(self):
        for name, text in sources():
            self.assertRegex(text, r"\A[ -~\n]*\Z", name)
            lines = text.split("\n")
            self.assertLessEqual(len(lines), 400, name)
            for line in lines:
                self.assertLessEqual(len(line), 120, name)

    def test_words(self):
        for name, text in sources():
            self.assertEqual(WORDS & set(re.findall(r"\w+", text)), set(), name)
            for part in PARTS_OF_WORDS:
                self.assertNotIn(part, text, name)


class Code(unittest.TestCase):
    def test_imports_are_the_package_s_own(self):
        for name, node in trees():
            if isinstance(node, ast.ImportFrom):
                self.assertEqual(node.level, 0, name)
                self.assertTrue(node.module.startswith("fillboard."), name)
                self.assertNotIn("*", [one.name for one in node.names], name)

    def test_functions(self):
        for name, node in trees():
            if isinstance(node, ast.FunctionDef):
                where = f"{name} {node.name}"
                self.assertLessEqual(node.end_lineno - node.lineno + 1, 40, where)
                self.assertEqual(node.decorator_list, [], where)
                self.assertIsNone(node.args.vararg or node.args.kwarg, where)
                self.assertEqual(node.args.kwonlyargs, [], where)

    def test_classes(self):
        methods = set()
        values = set()
        for name, node in trees():
            if isinstance(node, ast.ClassDef):
                self.assertEqual(node.decorator_list, [], node.name)
                self.assertLessEqual(len(node.bases), 1, node.name)
                for number, one in enumerate(node.body):
                    if number > 0 or ast.get_docstring(node) is None:
                        self.assertIsInstance(one, ast.FunctionDef, node.name)
                        methods.add(one.name)
            if isinstance(node, ast.Attribute) and isinstance(node.ctx, ast.Store):
                self.assertIsInstance(node.value, ast.Name, f"{name} {node.lineno}")
                values.add(node.attr)
        self.assertEqual(methods & values, set())
        for one in methods | values:
            self.assertRegex(one, r"\A[A-Za-z]\w*\Z|\A__init__\Z")
        for kind in (str, int, list, tuple, dict, set, bytes):
            self.assertEqual(values & set(dir(kind)), set())
            self.assertEqual(methods & set(dir(kind)), methods & {"__init__"})

    def test_the_top_of_a_file(self):
        for name, text in sources():
            bound = []
            for number, one in enumerate(ast.parse(text).body):
                if isinstance(one, ast.Assign):
                    self.assertIsInstance(ast.literal_eval(one.value), (int, str, tuple), name)
                    bound.append(one.targets[0].id)
                elif isinstance(one, (ast.FunctionDef, ast.ClassDef)):
                    bound.append(one.name)
                elif isinstance(one, ast.ImportFrom):
                    bound.extend(alias.name for alias in one.names)
                else:
                    self.assertTrue(number == 0 and isinstance(one, ast.Expr), name)
            self.assertEqual(len(bound), len(set(bound)), name)

    def test_no_local_is_called_like_an_import_or_class(self):
        for name, text in sources():
            tree = ast.parse(text)
            outer = {node.name for node in tree.body if isinstance(node, ast.ClassDef)}
            for node in tree.body:
                if isinstance(node, ast.ImportFrom):
                    outer.update(alias.name for alias in node.names)
            for node in ast.walk(tree):
                if isinstance(node, ast.arg):
                    self.assertNotIn(node.arg, outer, name)
                if isinstance(node, ast.Name) and isinstance(node.ctx, ast.Store):
                    self.assertNotIn(node.id, outer, name)

    def test_statements_and_expressions(self):
        for name, node in trees():
            where = f"{name} {getattr(node, 'lineno', '')}"
            self.assertNotIsInstance(node, NOT_USED, where)
            if isinstance(node, ast.Assign):
                self.assertEqual(len(node.targets), 1, where)
                self.assertNotIsInstance(node.targets[0], (ast.Tuple, ast.List), where)
            if isinstance(node, (ast.For, ast.While)):
                self.assertEqual(node.orelse, [], where)
            if isinstance(node, ast.Compare) and isinstance(node.ops[0], (ast.Is, ast.IsNot)):
                self.assertIn(ast.unparse(node.comparators[0]), ("None", "True", "False"), where)
            if isinstance(node, ast.ListComp):
                self.assertEqual(len(node.generators), 1, where)
                self.assertLessEqual(len(node.generators[0].ifs), 1, where)
            if isinstance(node, ast.Constant):
                self.assertNotIsInstance(node.value, (float, complex, bytes), where)

    def test_bound_names(self):
        for name, node in trees():
            bound = None
            if isinstance(node, ast.Name) and isinstance(node.ctx, ast.Store):
                bound = node.id
            if isinstance(node, (ast.FunctionDef, ast.ClassDef)):
                bound = node.name
            if isinstance(node, ast.arg):
                bound = node.arg
            if bound is not None and bound != "__init__":
                self.assertRegex(bound, r"\A[A-Za-z]\w*\Z", name)
                self.assertFalse(hasattr(builtins, bound), f"{name} {bound}")

    def test_names_of_python_s_own(self):
        own_methods = {node.name for name, node in trees() if isinstance(node, ast.FunctionDef)}
        for name, node in trees():
            where = f"{name} {getattr(node, 'lineno', '')}"
            if isinstance(node, ast.Name) and hasattr(builtins, node.id):
                self.assertIn(node.id, OWN_NAMES, where)
            if isinstance(node, ast.Call) and isinstance(node.func, ast.Attribute):
                self.assertIn(node.func.attr, METHODS | own_methods, where)


if __name__ == "__main__":
    unittest.main()

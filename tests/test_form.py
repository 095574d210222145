"""The form of the package's own files: the rules of the language document that a look can check.

The names in brackets are the rules' numbers there.
"""

import ast
import builtins
import pathlib
import re
import unittest

PACKAGE = pathlib.Path(__file__).resolve().parent.parent / "leastone"

STATEMENTS = (
    ast.FunctionDef, ast.ClassDef, ast.Assign, ast.AugAssign, ast.If, ast.While, ast.For, ast.Return,
    ast.Break, ast.Continue, ast.Pass, ast.Raise, ast.Try, ast.Expr, ast.ImportFrom,
)
BARRED_EXPRESSIONS = (
    ast.SetComp, ast.DictComp, ast.GeneratorExp, ast.NamedExpr, ast.Starred, ast.Div, ast.Yield,
    ast.YieldFrom, ast.Await,
)
PYTHONS_NAMES = set(
    """len range enumerate zip min max sum abs sorted reversed int str bool list tuple dict set frozenset
    isinstance ord repr any all divmod Exception ValueError TypeError KeyError IndexError LookupError
    ZeroDivisionError ArithmeticError OverflowError RuntimeError NotImplementedError AttributeError
    StopIteration""".split()
)
METHODS = set(
    """append clear copy count endswith extend find get index insert isalnum isalpha isdigit islower isspace
    isupper items join keys ljust lower lstrip partition pop remove replace reverse rfind rjust rpartition
    rsplit rstrip setdefault split splitlines startswith strip update upper values zfill bit_length""".split()
)
BARRED_WORDS = re.compile(
    r"\b(type|typing|typing_extensions|enum|Enum|IntEnum|StrEnum|Flag|IntFlag|Generic|Protocol|ABC|ABCMeta"
    r"|namedtuple|NamedTuple|TypedDict|TYPE_CHECKING|abstractmethod)\b|dataclass|overload|contextmanager"
)


def package_files():
    return sorted(path for path in PACKAGE.rglob("*") if path.is_file() and "__pycache__" not in path.parts)


class Form(unittest.TestCase):
    def each_tree(self):
        for path in package_files():
            yield ast.parse(path.read_text(encoding="utf-8"), path.name)

    def each_node(self, *kinds):
        for tree in self.each_tree():
            for node in ast.walk(tree):
                if isinstance(node, kinds):
                    yield node

    def test_files(self):
        """[L1, L14]"""
        names = [str(path.relative_to(PACKAGE)) for path in package_files()]
        self.assertIn("__init__.py", names)
        self.assertIn("machines.py", names)
        for name in names:
            self.assertRegex(name, r"\A([a-z][a-z0-9_]*|__init__)\.py\Z")

    def test_signs_and_size(self):
        """[L10, L14, L17]"""
        for path in package_files():
            text = path.read_bytes().decode("ascii")
            self.assertEqual([sign for sign in text if sign != "\n" and not " " <= sign <= "~"], [])
            self.assertIsNone(BARRED_WORDS.search(text))
            self.assertLessEqual(len(text.splitlines()), 400)
            self.assertLessEqual(max(len(line) for line in text.splitlines()), 120)

    def test_functions_are_small_and_plain(self):
        """[L4, L10, L21]"""
        for node in self.each_node(ast.FunctionDef):
            self.assertLessEqual(node.end_lineno - node.lineno + 1, 40, node.name)
            self.assertEqual(node.decorator_list, [], node.name)
            self.assertIsNone(node.args.vararg or node.args.kwarg or node.returns, node.name)
            self.assertEqual(node.args.kwonlyargs + node.args.posonlyargs, [], node.name)

    def test_statements(self):
        """[L2, L6]"""
        for node in self.each_node(ast.stmt):
            self.assertIsInstance(node, STATEMENTS)
            if isinstance(node, ast.Assign):
                self.assertEqual(len(node.targets), 1)
            if isinstance(node, ast.ImportFrom):
                self.assertEqual((node.level, node.module.split(".")[0]), (0, "leastone"))
            if isinstance(node, (ast.While, ast.For)):
                self.assertEqual(node.orelse, [])

    def test_expressions(self):
        """[L7]"""
        for node in self.each_node(ast.AST):
            self.assertNotIsInstance(node, BARRED_EXPRESSIONS)
            if isinstance(node, ast.Constant):
                self.assertNotIsInstance(node.value, (float, complex, bytes))
            if isinstance(node, ast.ListComp):
                self.assertEqual(len(node.generators), 1)
                self.assertLessEqual(len(node.generators[0].ifs), 1)

    def test_is_stands_beside_none_true_and_false_alone(self):
        """[L20]"""
        for node in self.each_node(ast.Compare):
            sides = [node.left] + node.comparators
            for place, sign in enumerate(node.ops):
                if isinstance(sign, (ast.Is, ast.IsNot)):
                    beside = [side.value for side in sides[place:place + 2] if isinstance(side, ast.Constant)]
                    self.assertTrue(any(value is None or isinstance(value, bool) for value in beside))

    def test_names(self):
        """[L8, L12, L15]"""
        for node in self.each_node(ast.Name, ast.arg, ast.FunctionDef):
            name = getattr(node, "id", None) or getattr(node, "arg", None) or getattr(node, "name", None)
            self.assertRegex(name, r"\A[A-Za-z][A-Za-z0-9_]*\Z")
            if isinstance(node, ast.Name) and isinstance(node.ctx, ast.Load):
                self.assertFalse(hasattr(builtins, name) and name not in PYTHONS_NAMES, name)
            else:
                self.assertFalse(hasattr(builtins, name), name)

    def test_keywords_at_pythons_own(self):
        """[L22]"""
        allowed = {"sorted": {"key", "reverse"}, "min": {"key", "default"}, "max": {"key", "default"}}
        allowed.update({"sum": {"start"}, "enumerate": {"start"}, "zip": {"strict"}})
        for node in self.each_node(ast.Call):
            name = node.func.id if isinstance(node.func, ast.Name) else ""
            if name in PYTHONS_NAMES or isinstance(node.func, ast.Attribute):
                self.assertLessEqual({keyword.arg for keyword in node.keywords}, allowed.get(name, set()))

    def test_sets_are_neither_kept_nor_walked(self):
        """[L24]: the package does without them."""
        for node in self.each_node(ast.Set, ast.Name):
            self.assertNotIsInstance(node, ast.Set)
            self.assertNotIn(node.id, ("set", "frozenset"))

    def test_no_power_and_no_sign_of_rest_within_a_text(self):
        """[L27]"""
        for node in self.each_node(ast.Pow, ast.Constant):
            self.assertNotIsInstance(node, ast.Pow)
            self.assertFalse(isinstance(node.value, str) and "%" in node.value)

    def test_imports_nothing(self):
        """What the program's document says of its functions."""
        self.assertEqual(list(self.each_node(ast.Import, ast.ImportFrom)), [])

    def test_methods(self):
        """[L25]"""
        for node in self.each_node(ast.Attribute):
            self.assertIn(node.attr, METHODS)

    def test_top_of_a_module(self):
        """[L3, L15]"""
        for tree in self.each_tree():
            self.assertIsNotNone(ast.get_docstring(tree))
            bound = []
            for node in tree.body[1:]:
                self.assertIsInstance(node, (ast.ImportFrom, ast.FunctionDef, ast.ClassDef, ast.Assign))
                if isinstance(node, ast.Assign):
                    ast.literal_eval(node.value)
                    bound.append(node.targets[0].id)
                elif not isinstance(node, ast.ImportFrom):
                    bound.append(node.name)
            self.assertEqual(len(bound), len(set(bound)))


if __name__ == "__main__":
    unittest.main()

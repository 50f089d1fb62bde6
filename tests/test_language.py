"""The package keeps to LANGUAGE.md, as far as its rules can be seen by reading the files."""

import ast
import builtins
import os
import re
import unittest

PACKAGE = os.path.join(os.path.dirname(os.path.dirname(os.path.abspath(__file__))), "schoolbus")

ALLOWED_BUILTINS = set(
    "len range enumerate zip min max sum abs sorted reversed int str bool list tuple dict set frozenset isinstance ord "
    "repr any all divmod Exception ValueError TypeError KeyError IndexError LookupError ZeroDivisionError "
    "ArithmeticError OverflowError RuntimeError NotImplementedError AttributeError StopIteration".split()
)
ALLOWED_METHODS = set(
    "append clear copy count endswith extend find get index insert isalnum isalpha isdigit islower isspace isupper "
    "items join keys ljust lower lstrip partition pop remove replace reverse rfind rjust rpartition rsplit rstrip "
    "setdefault split splitlines startswith strip update upper values zfill bit_length".split()
)
WORDS_NOWHERE = set(
    "type typing typing_extensions enum Enum IntEnum StrEnum Flag IntFlag Generic Protocol ABC ABCMeta namedtuple "
    "NamedTuple TypedDict TYPE_CHECKING abstractmethod".split()
)
NAMES_NOWHERE = set("register mro elements open input version_info with_traceback add_note".split())
ALLOWED_NODES = (
    ast.Module, ast.Expr, ast.Constant, ast.ImportFrom, ast.alias, ast.FunctionDef, ast.Lambda, ast.arguments, ast.arg,
    ast.ClassDef, ast.Assign, ast.AugAssign, ast.If, ast.While, ast.For, ast.Return, ast.Break, ast.Continue, ast.Pass,
    ast.Raise, ast.Try, ast.ExceptHandler, ast.Call, ast.keyword, ast.Name, ast.Attribute, ast.Subscript, ast.Slice,
    ast.List, ast.Tuple, ast.Dict, ast.ListComp, ast.comprehension, ast.JoinedStr, ast.FormattedValue, ast.IfExp,
    ast.BinOp, ast.UnaryOp, ast.BoolOp, ast.Compare, ast.expr_context, ast.operator, ast.unaryop, ast.boolop, ast.cmpop,
)


def files():
    return sorted(name for name in os.listdir(PACKAGE) if name != "__pycache__")


def text_of(name):
    with open(os.path.join(PACKAGE, name), encoding="utf-8", newline="") as file:
        return file.read()


class Language(unittest.TestCase):
    def each_node(self):
        for name in files():
            for node in ast.walk(ast.parse(text_of(name))):
                yield f"{name}:{getattr(node, 'lineno', 0)}", node

    def test_files(self):
        self.assertIn("__init__.py", files())
        for name in files():
            self.assertRegex(name, r"^([a-z][a-z0-9_]*|__init__)\.py$")
            self.assertNotIn(name[:-3], dir(builtins))

    def test_signs_words_and_sizes(self):
        for name in files():
            text = text_of(name)
            self.assertRegex(text, r"\A[ -~\n]*\Z", name)
            lines = text.split("\n")
            self.assertLessEqual(len(lines), 400, name)
            self.assertLessEqual(max(len(line) for line in lines), 120, name)
            self.assertFalse(WORDS_NOWHERE & set(re.findall(r"\w+", text)), name)
            self.assertNotRegex(text, "dataclass|overload|contextmanager", name)

    def test_only_what_is_allowed(self):
        for place, node in self.each_node():
            self.assertIsInstance(node, ALLOWED_NODES, place)
            self.assertNotIsInstance(node, (ast.Div, ast.MatMult), place)
            if isinstance(node, ast.Constant):
                self.assertIn(node.value.__class__, (int, str, bool, None.__class__), place)
            if isinstance(node, ast.Assign):
                self.assertEqual(len(node.targets), 1, place)
                self.assertNotIsInstance(node.targets[0], ast.Tuple, place)
            if isinstance(node, (ast.For, ast.While)):
                self.assertEqual(node.orelse, [], place)
            if isinstance(node, ast.ListComp):
                self.assertEqual(len(node.generators), 1, place)
                self.assertLessEqual(len(node.generators[0].ifs), 1, place)
            if isinstance(node, ast.Compare) and isinstance(node.ops[0], (ast.Is, ast.IsNot)):
                self.assertIsInstance(node.comparators[0], ast.Constant, place)

    def test_functions_and_classes(self):
        for place, node in self.each_node():
            if isinstance(node, ast.FunctionDef):
                self.assertLessEqual(node.end_lineno - node.lineno + 1, 40, place)
                self.assertEqual(node.decorator_list, [], place)
                told = node.args
                self.assertFalse(told.vararg or told.kwarg or told.kwonlyargs or told.posonlyargs, place)
            if isinstance(node, ast.ClassDef):
                self.assertEqual(node.decorator_list, [], place)
                self.assertLessEqual(len(node.bases), 1, place)
                self.assertTrue(all(isinstance(one, (ast.FunctionDef, ast.Pass)) for one in node.body), place)

    def test_imports_are_of_the_package_and_in_no_circle(self):
        drawn = {}
        for name in files():
            tree = ast.parse(text_of(name))
            drawn[name[:-3]] = [node.module for node in tree.body if isinstance(node, ast.ImportFrom)]
            for node in ast.walk(tree):
                if isinstance(node, ast.ImportFrom):
                    self.assertIn(node, tree.body, name)
                    self.assertEqual(node.level, 0, name)
                    self.assertRegex(node.module, r"^schoolbus\.[a-z_]+$", name)
                    self.assertTrue(all(one.name != "*" and one.asname is None for one in node.names), name)
        self.assertEqual(drawn["__init__"], [])
        while drawn:
            free = [name for name in drawn if not any(module[10:] in drawn for module in drawn[name])]
            self.assertTrue(free, f"these draw from one another: {sorted(drawn)}")
            drawn = {name: drawn[name] for name in drawn if name not in free}

    def test_names(self):
        own = set(dir(builtins))
        for place, node in self.each_node():
            name = None
            if isinstance(node, ast.Name):
                name = node.id
                if name in own:
                    self.assertIn(name, ALLOWED_BUILTINS, place)
                    self.assertIsInstance(node.ctx, ast.Load, place)
            elif isinstance(node, ast.arg):
                name = node.arg
                self.assertNotIn(name, own, place)
            elif isinstance(node, (ast.FunctionDef, ast.ClassDef)):
                name = node.name
                self.assertNotIn(name, own, place)
            elif isinstance(node, ast.Attribute):
                name = node.attr
            if name is not None and name != "__init__":
                self.assertRegex(name, r"^[A-Za-z][A-Za-z0-9_]*$", place)
                self.assertNotIn(name, NAMES_NOWHERE, place)

    def test_methods(self):
        own = {node.name for place, node in self.each_node() if isinstance(node, ast.FunctionDef)}
        for place, node in self.each_node():
            if isinstance(node, ast.Call) and isinstance(node.func, ast.Attribute):
                self.assertIn(node.func.attr, ALLOWED_METHODS | own, place)

    def test_no_local_is_called_like_an_import_or_a_class_of_its_file(self):
        for name in files():
            tree = ast.parse(text_of(name))
            taken = {one.name for node in tree.body if isinstance(node, ast.ImportFrom) for one in node.names}
            taken = taken | {node.name for node in tree.body if isinstance(node, ast.ClassDef)}
            for node in ast.walk(tree):
                if isinstance(node, ast.Name) and isinstance(node.ctx, ast.Store):
                    self.assertNotIn(node.id, taken, f"{name}:{node.lineno}")
                if isinstance(node, ast.arg):
                    self.assertNotIn(node.arg, taken, f"{name}:{node.lineno}")


if __name__ == "__main__":
    unittest.main()

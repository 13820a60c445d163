"""The rules of form that a reading of the package's own files can check."""

import ast
import builtins
import os
import re
import unittest

HERE = os.path.dirname(os.path.abspath(__file__))
PACKAGE = os.path.join(os.path.dirname(HERE), "equalterms")

ALLOWED_NODES = {
    ast.Module, ast.ImportFrom, ast.alias, ast.FunctionDef, ast.ClassDef, ast.arguments, ast.arg, ast.Assign,
    ast.AugAssign, ast.If, ast.While, ast.For, ast.Return, ast.Break, ast.Continue, ast.Pass, ast.Raise, ast.Try,
    ast.ExceptHandler, ast.Expr, ast.Constant, ast.List, ast.Tuple, ast.Dict, ast.BinOp, ast.UnaryOp, ast.BoolOp,
    ast.Compare, ast.IfExp, ast.Call, ast.Attribute, ast.Subscript, ast.Slice, ast.ListComp, ast.comprehension,
    ast.Name, ast.keyword, ast.Lambda, ast.JoinedStr, ast.FormattedValue, ast.Load, ast.Store,
}
ALLOWED_SIGNS = (ast.operator, ast.unaryop, ast.boolop, ast.cmpop)
FORBIDDEN_SIGNS = (ast.Div, ast.MatMult)
BUILT_IN = set(
    "len range enumerate zip min max sum abs sorted reversed int str bool list tuple dict set frozenset isinstance "
    "ord repr any all divmod Exception ValueError TypeError KeyError IndexError LookupError ZeroDivisionError "
    "ArithmeticError OverflowError RuntimeError NotImplementedError AttributeError StopIteration".split()
)
FORBIDDEN_WORDS = set(
    "type typing typing_extensions enum Enum IntEnum StrEnum Flag IntFlag Generic Protocol ABC ABCMeta namedtuple "
    "NamedTuple TypedDict TYPE_CHECKING abstractmethod".split()
)
METHODS = set(
    "append clear copy count endswith extend find get index insert isalnum isalpha isdigit islower isspace isupper "
    "items join keys ljust lower lstrip partition pop remove replace reverse rfind rjust rpartition rsplit rstrip "
    "setdefault split splitlines startswith strip update upper values zfill bit_length".split()
)


def package_files():
    found = []
    for folder, folders, names in os.walk(PACKAGE):
        folders[:] = [name for name in folders if name != "__pycache__"]
        found.extend(os.path.join(folder, name) for name in names)
    return sorted(found)


def read(path):
    with open(path, encoding="utf-8", newline="") as file:
        return file.read()


def bound_names(tree):
    names = set()
    for node in ast.walk(tree):
        if isinstance(node, (ast.FunctionDef, ast.ClassDef)):
            names.add(node.name)
        elif isinstance(node, ast.arg):
            names.add(node.arg)
        elif isinstance(node, ast.alias):
            names.add(node.name)
        elif isinstance(node, ast.Name) and isinstance(node.ctx, ast.Store):
            names.add(node.id)
    return names


class LanguageTest(unittest.TestCase):
    def each_tree(self):
        for path in package_files():
            yield path, ast.parse(read(path))

    def test_files(self):
        for path in package_files():
            self.assertRegex(os.path.basename(path), r"^[a-z0-9_]+\.py$")
        self.assertIn(os.path.join(PACKAGE, "__init__.py"), package_files())

    def test_signs_words_and_sizes(self):
        for path in package_files():
            text = read(path)
            self.assertRegex(text, r"\A[\n -~]*\Z", path)
            self.assertEqual(set(re.findall(r"\w+", text)) & FORBIDDEN_WORDS, set(), path)
            self.assertLessEqual(text.count("\n"), 400, path)
            self.assertLessEqual(max(len(row) for row in text.split("\n")), 120, path)

    def test_nodes(self):
        for path, tree in self.each_tree():
            for node in ast.walk(tree):
                allowed = node.__class__ in ALLOWED_NODES or isinstance(node, ALLOWED_SIGNS)
                where = f"{path}:{getattr(node, 'lineno', 0)} {node.__class__.__name__}"
                self.assertTrue(allowed and not isinstance(node, FORBIDDEN_SIGNS), where)
                if isinstance(node, ast.Assign):
                    self.assertEqual(len(node.targets), 1, where)
                if isinstance(node, (ast.For, ast.While)):
                    self.assertEqual(node.orelse, [], where)
                if isinstance(node, ast.FunctionDef):
                    self.assertLessEqual(node.end_lineno - node.lineno + 1, 40, where)
                    self.assertEqual(node.decorator_list, [], where)

    def test_imports(self):
        for path, tree in self.each_tree():
            for node in ast.walk(tree):
                if isinstance(node, ast.ImportFrom):
                    self.assertEqual(node.level, 0, path)
                    self.assertTrue(node.module.startswith("equalterms."), path)

    def test_names(self):
        for path, tree in self.each_tree():
            bound = bound_names(tree)
            self.assertEqual(bound & set(dir(builtins)) - {"__init__"}, set(), path)
            for name in bound - {"__init__"}:
                self.assertRegex(name, r"^[A-Za-z][A-Za-z0-9_]*$", path)
            used = {node.id for node in ast.walk(tree) if isinstance(node, ast.Name)}
            self.assertEqual(used - bound - BUILT_IN, set(), path)

    def test_attributes(self):
        own = set()
        for path, tree in self.each_tree():
            own |= {node.name for node in ast.walk(tree) if isinstance(node, ast.FunctionDef)}
            own |= {node.attr for node in ast.walk(tree)
                    if isinstance(node, ast.Attribute) and isinstance(node.ctx, ast.Store)}
        for path, tree in self.each_tree():
            used = {node.attr for node in ast.walk(tree) if isinstance(node, ast.Attribute)}
            self.assertEqual(used - own - METHODS, set(), path)


if __name__ == "__main__":
    unittest.main()

"""The package keeps to the subset of the language, as far as the text of its files shows it."""

import ast
import builtins
import os
import re
import unittest

FOLDER = os.path.join(os.path.dirname(os.path.dirname(os.path.abspath(__file__))), "hingerows")
LIBRARY = {
    "math": {"gcd", "lcm", "isqrt", "comb", "perm", "factorial"},
    "itertools": {
        "product", "combinations", "permutations", "chain", "accumulate", "pairwise", "islice", "zip_longest",
    },
    "heapq": {"heappush", "heappop", "heapify", "heapreplace", "heappushpop"},
    "collections": {"defaultdict"},
}
LET_BUILTINS = set(
    "len range enumerate zip min max sum abs sorted reversed int str bool list tuple dict set isinstance ord repr "
    "any all divmod pow iter next super property classmethod staticmethod Exception ValueError TypeError KeyError "
    "IndexError LookupError ZeroDivisionError ArithmeticError OverflowError RuntimeError NotImplementedError "
    "AttributeError NotImplemented".split()
)
BARRED = set(
    "register mro elements open input law version_info with_traceback add_note type typing enum Enum Flag Generic "
    "Protocol ABC namedtuple dataclass".split()
)
LET_NODES = (
    ast.Module, ast.Import, ast.ImportFrom, ast.alias, ast.FunctionDef, ast.ClassDef, ast.arguments, ast.arg,
    ast.Return, ast.Assign, ast.AugAssign, ast.For, ast.While, ast.If, ast.Raise, ast.Try, ast.ExceptHandler,
    ast.With, ast.withitem, ast.Pass, ast.Break, ast.Continue, ast.Expr, ast.Assert, ast.Delete, ast.BoolOp,
    ast.BinOp, ast.UnaryOp, ast.Lambda, ast.IfExp, ast.Dict, ast.Set, ast.ListComp, ast.SetComp, ast.DictComp,
    ast.GeneratorExp, ast.comprehension, ast.Compare, ast.Call, ast.keyword, ast.FormattedValue, ast.JoinedStr,
    ast.Constant, ast.Attribute, ast.Subscript, ast.Slice, ast.Starred, ast.Name, ast.List, ast.Tuple,
    ast.expr_context, ast.boolop, ast.operator, ast.unaryop, ast.cmpop,
)


def files():
    return sorted(name for name in os.listdir(FOLDER) if name != "__pycache__")


def text_of(name):
    with open(os.path.join(FOLDER, name), encoding="utf-8", newline="") as file:
        return file.read()


def trees():
    return {name: ast.parse(text_of(name)) for name in files()}


def nodes():
    return [(name, node) for name, tree in trees().items() for node in ast.walk(tree)]


class LanguageTest(unittest.TestCase):
    def test_files(self):
        for name in files():
            self.assertRegex(name, "^[a-z_]+[.]py$")
            text = text_of(name)
            self.assertFalse(set(text) - set(map(chr, range(32, 127))) - {"\n"}, name)
            lines = text.split("\n")
            self.assertLessEqual(len(lines), 399, name)
            self.assertLessEqual(max(map(len, lines)), 120, name)

    def test_functions_are_short(self):
        for name, node in nodes():
            if isinstance(node, ast.FunctionDef):
                self.assertLessEqual(node.end_lineno - node.lineno + 1, 40, (name, node.name))

    def test_nodes(self):
        for name, node in nodes():
            self.assertIsInstance(node, LET_NODES, name)
            if isinstance(node, ast.Constant):
                self.assertNotIsInstance(node.value, (float, complex), name)
            if isinstance(node, (ast.BinOp, ast.AugAssign)):
                self.assertNotIsInstance(node.op, (ast.Div, ast.MatMult), name)
            if isinstance(node, ast.AugAssign):
                self.assertIsInstance(node.value, ast.Constant, name)
            if isinstance(node, (ast.FunctionDef, ast.ClassDef)):
                for decorator in node.decorator_list:
                    self.assertIn(decorator.id, ("property", "classmethod", "staticmethod"))

    def test_module_level(self):
        for name, tree in trees().items():
            for at, node in enumerate(tree.body):
                docstring = at == 0 and isinstance(node, ast.Expr) and isinstance(node.value, ast.Constant)
                kinds = (ast.ImportFrom, ast.FunctionDef, ast.ClassDef, ast.Assign)
                self.assertTrue(docstring or isinstance(node, kinds), (name, node.lineno))

    def test_imports_name_the_file_that_defines_the_name(self):
        defined = {
            name[:-3]: {node.name for node in tree.body if isinstance(node, (ast.FunctionDef, ast.ClassDef))}
            for name, tree in trees().items()
        }
        for name, node in nodes():
            if isinstance(node, ast.ImportFrom):
                place, _, file = node.module.partition(".")
                let = defined[file] if place == "hingerows" else LIBRARY[node.module]
                for alias in node.names:
                    self.assertIn(alias.name, let, name)
                    self.assertIsNone(alias.asname)

    def test_no_two_files_import_from_each_other(self):
        wanted = {
            name[:-3]: {
                node.module.partition(".")[2] for node in tree.body
                if isinstance(node, ast.ImportFrom) and node.module.startswith("hingerows.")
            }
            for name, tree in trees().items()
        }
        while wanted:
            free = [name for name, others in wanted.items() if not others & set(wanted)]
            self.assertTrue(free, wanted)
            wanted = {name: others for name, others in wanted.items() if name not in free}

    def test_names(self):
        for name, node in nodes():
            if isinstance(node, ast.Name):
                # A doctest leaves a `_` among the builtins.
                if hasattr(builtins, node.id) and node.id != "_":
                    self.assertIn(node.id, LET_BUILTINS, name)
                    self.assertIsInstance(node.ctx, ast.Load, name)
                self.assertNotIn(node.id, BARRED, name)
            if isinstance(node, ast.arg):
                self.assertFalse(hasattr(builtins, node.arg), (name, node.arg))
            if isinstance(node, ast.Attribute):
                self.assertNotIn(node.attr, BARRED, name)
            if isinstance(node, (ast.Name, ast.arg, ast.Attribute, ast.FunctionDef, ast.ClassDef)):
                found = getattr(node, "id", None) or getattr(node, "arg", None) or getattr(node, "attr", None)
                found = found or node.name
                self.assertTrue(re.fullmatch("_?[A-Za-z][A-Za-z0-9_]*|_|__[a-z]+__", found), (name, found))

    def test_locals_do_not_hide_imports_and_classes(self):
        for name, tree in trees().items():
            bound = {alias.name for node in tree.body if isinstance(node, ast.ImportFrom) for alias in node.names}
            bound |= {node.name for node in tree.body if isinstance(node, ast.ClassDef)}
            for node in ast.walk(tree):
                if isinstance(node, ast.arg):
                    self.assertNotIn(node.arg, bound, name)
                if isinstance(node, ast.Name) and isinstance(node.ctx, ast.Store):
                    self.assertNotIn(node.id, bound, name)

    def test_lists_are_handed_to_what_tests_and_sums(self):
        for name, node in nodes():
            if isinstance(node, ast.Call) and isinstance(node.func, ast.Name):
                if node.func.id in ("any", "all", "min", "max", "sum", "sorted"):
                    for part in node.args:
                        self.assertNotIsInstance(part, ast.GeneratorExp, (name, node.lineno))

    def test_strings_have_no_barred_signs(self):
        for name, node in nodes():
            if isinstance(node, ast.Constant) and isinstance(node.value, str):
                self.assertNotIn(chr(37), node.value, name)

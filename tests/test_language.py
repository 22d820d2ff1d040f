"""The package keeps to a small part of Python: what can be told from its files is told here."""

import ast
import pathlib
import re
import unittest

PACKAGE = pathlib.Path(__file__).resolve().parent.parent / "sheetreader"
FILES = sorted(PACKAGE.glob("*.py"))

NODES = """
Module FunctionDef ClassDef arguments arg Return Assign AugAssign For While If Raise Try Break Continue Pass Expr
BoolOp BinOp UnaryOp IfExp Dict List Tuple Compare Call Constant Attribute Subscript Slice Name ListComp comprehension
ExceptHandler ImportFrom alias keyword Load Store And Or Not USub UAdd Invert Add Sub Mult FloorDiv Mod Pow
LShift RShift BitOr BitXor BitAnd Eq NotEq Lt LtE Gt GtE Is IsNot In NotIn
""".split()
BUILT_IN = """
len range enumerate zip min max sum abs sorted reversed int str bool list tuple dict isinstance ord repr any all divmod
ValueError KeyError IndexError
""".split()
METHODS = """
append clear copy count endswith extend find get index insert isdigit items join keys lower pop remove replace reverse
setdefault split startswith strip update upper values
""".split()
WORDS = """
type typing enum Enum IntEnum StrEnum Flag IntFlag Generic Protocol ABC ABCMeta namedtuple NamedTuple TypedDict
""".split()


def trees():
    return [(path, ast.parse(path.read_text())) for path in FILES]


def nodes():
    return [(path, node) for path, tree in trees() for node in ast.walk(tree)]


class Language(unittest.TestCase):
    def test_nothing_but_plain_files(self):
        found = sorted(path.name for path in PACKAGE.iterdir() if path.name != "__pycache__")
        self.assertEqual(found, [path.name for path in FILES])
        self.assertIn("__init__.py", found)
        for name in found:
            self.assertRegex(name, r"\A[a-z][a-z0-9_]*\.py\Z|\A__init__\.py\Z")

    def test_signs_and_sizes(self):
        for path in FILES:
            lines = path.read_text(encoding="ascii").split("\n")
            self.assertLessEqual(len(lines), 400)
            for line in lines:
                self.assertLessEqual(len(line), 120)
                self.assertRegex(line, r"\A[ -~]*\Z")
            for word in WORDS:
                self.assertIsNone(re.search(rf"\b{word}\b", path.read_text()), (path.name, word))

    def test_functions_are_short_and_plain(self):
        for path, node in nodes():
            if isinstance(node, ast.FunctionDef):
                where = (path.name, node.name)
                self.assertLessEqual(node.end_lineno - node.lineno + 1, 40, where)
                self.assertEqual(node.decorator_list, [], where)
                self.assertFalse(node.args.vararg or node.args.kwarg or node.args.kwonlyargs, where)

    def test_forms(self):
        for path, node in nodes():
            where = (path.name, getattr(node, "lineno", 0), type(node).__name__)
            self.assertIn(type(node).__name__, NODES, where)
            if isinstance(node, ast.Constant):
                self.assertIn(type(node.value), (int, str, bool, type(None)), where)
            if isinstance(node, ast.Assign):
                self.assertEqual(len(node.targets), 1, where)
                self.assertIsInstance(node.targets[0], (ast.Name, ast.Attribute, ast.Subscript), where)
            if isinstance(node, (ast.For, ast.While)):
                self.assertEqual(node.orelse, [], where)
            if isinstance(node, ast.ListComp):
                self.assertEqual(len(node.generators), 1, where)

    def test_only_a_files_head_is_a_text_by_itself(self):
        for path, tree in trees():
            texts = [node for node in ast.walk(tree) if isinstance(node, ast.Expr)
                     and isinstance(node.value, ast.Constant)]
            self.assertEqual(len(texts), 1, path.name)
            self.assertIsNotNone(ast.get_docstring(tree), path.name)

    def test_imports_are_the_packages_own_and_go_one_way(self):
        drawn = {}
        for path, tree in trees():
            own = "sheetreader." + path.stem
            drawn[own] = [node.module for node in ast.walk(tree) if isinstance(node, ast.ImportFrom)]
            for module in drawn[own]:
                self.assertRegex(module, r"\Asheetreader\.[a-z]+\Z")
        self.assertEqual(drawn["sheetreader.__init__"], [])
        settled = []
        while len(settled) < len(drawn):
            more = [own for own in drawn if own not in settled and all(m in settled for m in drawn[own])]
            self.assertNotEqual(more, [], "files draw from one another")
            settled += more

    def test_names(self):
        for path, tree in trees():
            top = [node.name for node in tree.body if isinstance(node, (ast.FunctionDef, ast.ClassDef))]
            top += [node.targets[0].id for node in tree.body if isinstance(node, ast.Assign)]
            top += [name.name for node in tree.body if isinstance(node, ast.ImportFrom) for name in node.names]
            self.assertEqual(len(top), len(set(top)), path.name)
            stored = [node.id for node in ast.walk(tree) if isinstance(node, ast.Name)
                      and isinstance(node.ctx, ast.Store)]
            stored += [node.arg for node in ast.walk(tree) if isinstance(node, ast.arg)]
            for name in stored:
                self.assertRegex(name, r"\A[A-Za-z][A-Za-z0-9_]*\Z")
                self.assertNotIn(name, dir(__import__("builtins")), path.name)
            for node in ast.walk(tree):
                if isinstance(node, ast.Name) and isinstance(node.ctx, ast.Load):
                    self.assertTrue(node.id in top or node.id in stored or node.id in BUILT_IN, (path.name, node.id))

    def test_methods_and_values_are_told_apart(self):
        methods = {node.name for path, tree in trees() for part in tree.body if isinstance(part, ast.ClassDef)
                   for node in part.body}
        values = {node.attr for path, node in nodes() if isinstance(node, ast.Attribute)
                  and isinstance(node.ctx, ast.Store)}
        self.assertEqual(methods & values, set())
        called = {node.func.attr for path, node in nodes() if isinstance(node, ast.Call)
                  and isinstance(node.func, ast.Attribute)}
        self.assertEqual(called - methods - set(METHODS), set())
        taken = [name for kind in (str, int, list, dict, set, bytes) for name in dir(kind)]
        for name in (methods | values) - {"__init__"}:
            self.assertNotIn(name, taken)


if __name__ == "__main__":
    unittest.main()

"""The form that the package's files keep to, as far as a walk through them can see it.

The numbers are those of the rules in LANGUAGE.md.
"""

import ast
import builtins
import re
import unittest
from pathlib import Path

PACKAGE = Path(__file__).resolve().parent.parent / "idealrows"

STATEMENTS = (ast.Assign, ast.AnnAssign, ast.AugAssign, ast.If, ast.While, ast.For, ast.Return, ast.Break,
              ast.Continue, ast.Pass, ast.Raise, ast.Try, ast.Expr, ast.FunctionDef, ast.ClassDef, ast.ImportFrom)
EXPRESSIONS = (ast.Constant, ast.Name, ast.BinOp, ast.UnaryOp, ast.Compare, ast.BoolOp, ast.IfExp, ast.Call,
               ast.Attribute, ast.Subscript, ast.Slice, ast.List, ast.Tuple, ast.Dict, ast.ListComp, ast.Lambda,
               ast.JoinedStr, ast.FormattedValue)
ALLOWED = set("""len range enumerate zip min max sum abs sorted reversed int str bool list tuple dict set frozenset
    isinstance ord repr any all divmod Exception ValueError TypeError KeyError IndexError LookupError
    ZeroDivisionError ArithmeticError OverflowError RuntimeError NotImplementedError AttributeError
    StopIteration""".split())
METHODS = set("""append clear copy count endswith extend find get index insert isalnum isalpha isdigit islower isspace
    isupper items join keys ljust lower lstrip partition pop remove replace reverse rfind rjust rpartition rsplit
    rstrip setdefault split splitlines startswith strip update upper values zfill bit_length""".split())
NEVER_NAMES = set("""register mro elements open input version_info with_traceback add_note attrgetter breakpoint
    builtins compile copyright credits delattr dir eval exec exit gc getattr globals hasattr help id importlib
    license locals methodcaller os quit setattr super type vars sys format format_map""".split())
NEVER_WORDS = re.compile(r"\b(type|typing|typing_extensions|enum|Enum|IntEnum|StrEnum|Flag|IntFlag|Generic|Protocol"
                         r"|ABC|ABCMeta|namedtuple|NamedTuple|TypedDict|TYPE_CHECKING|abstractmethod)\b"
                         r"|dataclass|overload|contextmanager")
PLAIN_NAME = re.compile(r"[A-Za-z][A-Za-z0-9_]*\Z")
OWN_METHODS = ("__init__", "__eq__", "__repr__", "__str__", "__len__")
MOST_LINES = 399
MOST_LINES_OF_A_FUNCTION = 40
MOST_SIGNS = 120


def bound_names(tree):
    names = []
    for node in ast.walk(tree):
        if isinstance(node, (ast.FunctionDef, ast.ClassDef)):
            names.append(node.name)
        elif isinstance(node, ast.arg):
            names.append(node.arg)
        elif isinstance(node, ast.Name) and isinstance(node.ctx, ast.Store):
            names.append(node.id)
    return names


def imported_names(tree):
    return [alias.name for node in tree.body if isinstance(node, ast.ImportFrom) for alias in node.names]


def top_names(tree):
    names = [node.name for node in tree.body if isinstance(node, (ast.FunctionDef, ast.ClassDef))]
    return names + [node.targets[0].id for node in tree.body if isinstance(node, ast.Assign)]


class FormTest(unittest.TestCase):
    @classmethod
    def setUpClass(cls):
        cls.paths = sorted(PACKAGE.glob("*.py"))
        cls.texts = {path.name: path.read_text(encoding="utf-8") for path in cls.paths}
        cls.trees = {name: ast.parse(text) for name, text in cls.texts.items()}

    def each(self, *kinds):
        for name, tree in self.trees.items():
            for node in ast.walk(tree):
                if isinstance(node, kinds):
                    yield name + ":" + str(getattr(node, "lineno", 0)), node

    def test_files(self):
        """L1, L14"""
        found = [path.name for path in PACKAGE.iterdir() if path.name != "__pycache__"]
        self.assertEqual(sorted(found), sorted(self.texts))
        for name in found:
            self.assertTrue(name == "__init__.py" or re.fullmatch(r"[a-z][a-z0-9_]*\.py", name), name)
            self.assertFalse(name[:-3] in dir(builtins) or name.startswith(("test", "conftest", "site")), name)
        self.assertIn("__init__.py", found)

    def test_size_and_signs(self):
        """L10, L14, L17, L27"""
        for name, text in self.texts.items():
            lines = text.split("\n")
            self.assertLessEqual(len(lines), MOST_LINES, name)
            self.assertLessEqual(max(map(len, lines)), MOST_SIGNS, name)
            self.assertTrue(all(sign == "\n" or " " <= sign <= "~" for sign in text), name)
            self.assertIsNone(NEVER_WORDS.search(text), name)
        for where, node in self.each(ast.FunctionDef):
            self.assertLessEqual(node.end_lineno - node.lineno + 1, MOST_LINES_OF_A_FUNCTION, where)

    def test_tops(self):
        """L2, L3, L15, L16"""
        for name, tree in self.trees.items():
            for place, node in enumerate(tree.body):
                docstring = place == 0 and isinstance(node, ast.Expr) and isinstance(node.value, ast.Constant)
                kinds = (ast.ImportFrom, ast.FunctionDef, ast.ClassDef, ast.Assign)
                self.assertTrue(docstring or isinstance(node, kinds), name)
            names = top_names(tree) + imported_names(tree)
            self.assertEqual(len(names), len(set(names)), name)
        self.assertEqual(top_names(self.trees["__init__.py"]) + imported_names(self.trees["__init__.py"]), [])

    def test_imports(self):
        """L2, L16"""
        drawn = {}
        for name, tree in self.trees.items():
            drawn[name] = set()
            for node in tree.body:
                if isinstance(node, ast.ImportFrom):
                    self.assertEqual((node.level, node.module.split(".")[0]), (0, "idealrows"), name)
                    source = node.module.split(".")[1] + ".py"
                    drawn[name].add(source)
                    for alias in node.names:
                        self.assertIsNone(alias.asname, name)
                        self.assertIn(alias.name, top_names(self.trees[source]), name)
        left = dict(drawn)
        while left:
            ready = [name for name in left if not drawn[name] & set(left)]
            self.assertTrue(ready, "files draw from one another")
            for name in ready:
                del left[name]

    def test_interface_stands_in_its_own_file(self):
        """L16"""
        self.assertEqual([name for name, tree in self.trees.items() if "answers" in top_names(tree)], ["ring.py"])

    def test_statements_and_expressions(self):
        """L2, L4, L6, L7"""
        for where, node in self.each(ast.stmt):
            self.assertIsInstance(node, STATEMENTS, where)
        for where, node in self.each(ast.expr):
            self.assertIsInstance(node, EXPRESSIONS, where)
            self.assertFalse(isinstance(node, ast.Constant) and isinstance(node.value, (float, complex, bytes)), where)
        for where, node in self.each(ast.Assign):
            self.assertEqual(len(node.targets), 1, where)
        for where, node in self.each(ast.For, ast.While):
            self.assertEqual(node.orelse, [], where)
        for where, node in self.each(ast.ListComp):
            self.assertEqual(len(node.generators), 1, where)
            self.assertLessEqual(len(node.generators[0].ifs), 1, where)
        for where, node in self.each(ast.Div, ast.Is, ast.IsNot, ast.MatMult):
            self.fail(type(node).__name__ + " in " + where)

    def test_functions_and_classes(self):
        """L4, L5, L18, L21"""
        for where, node in self.each(ast.FunctionDef):
            arguments = node.args
            self.assertFalse(arguments.vararg or arguments.kwarg or arguments.kwonlyargs or arguments.posonlyargs, where)
            self.assertEqual(node.decorator_list, [], where)
        methods = set()
        for where, node in self.each(ast.ClassDef):
            self.assertEqual(node.decorator_list, [], where)
            self.assertTrue(all(isinstance(part, ast.FunctionDef) for part in node.body), where)
            methods |= {part.name for part in node.body} - set(OWN_METHODS)
        for where, node in self.each(ast.Attribute):
            if isinstance(node.ctx, ast.Store):
                self.assertNotIn(node.attr, methods, where)
        for where, node in self.each(ast.Call):
            if isinstance(node.func, ast.Attribute):
                self.assertIn(node.func.attr, methods | METHODS, where)

    def test_names(self):
        """L8, L12, L15, L17"""
        for name, tree in self.trees.items():
            bound = bound_names(tree)
            imported = imported_names(tree)
            classes = [node.name for node in tree.body if isinstance(node, ast.ClassDef)]
            for one in bound:
                self.assertTrue(PLAIN_NAME.match(one) or one in OWN_METHODS, (name, one))
                self.assertNotIn(one, dir(builtins), name)
                self.assertNotIn(one, NEVER_NAMES, name)
                self.assertNotIn(one, imported, name)
            for one in classes:
                self.assertEqual(bound.count(one), 1, (name, one))
            for node in ast.walk(tree):
                if isinstance(node, ast.Name) and isinstance(node.ctx, ast.Load):
                    self.assertTrue(node.id in bound or node.id in imported or node.id in ALLOWED, (name, node.id))
                if isinstance(node, ast.Attribute):
                    self.assertNotIn(node.attr, NEVER_NAMES, name)


if __name__ == "__main__":
    unittest.main()

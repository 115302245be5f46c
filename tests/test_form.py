"""The package keeps to the small part of Python that it's written in, as far as this is plain to see."""

import ast
import re
import unittest
from pathlib import Path

PACKAGE = Path(__file__).resolve().parent.parent / "flatmessages"
FILES = sorted(PACKAGE.rglob("*.py"))

BUILT_IN = set("""len range enumerate zip min max sum abs sorted reversed int str bool list tuple dict set
    frozenset isinstance ord repr any all divmod Exception ValueError TypeError KeyError IndexError LookupError
    ZeroDivisionError ArithmeticError OverflowError RuntimeError NotImplementedError StopIteration""".split())
METHODS = set("""append clear copy count endswith extend find get index insert items join keys pop remove replace
    reverse setdefault split startswith update values bit_length""".split())
NOT_WRITTEN = re.compile(r"""\b(type|typing|typing_extensions|enum|Enum|IntEnum|StrEnum|Flag|IntFlag|Generic|
    Protocol|ABC|ABCMeta|namedtuple|NamedTuple|TypedDict|TYPE_CHECKING|abstractmethod)\b
    |dataclass|overload|contextmanager""", re.VERBOSE)
NOT_NAMED = set("""register mro elements open input version_info with_traceback add_note format format_map
    attrgetter breakpoint builtins compile copyright credits delattr dir eval exec exit gc getattr globals hasattr
    help id importlib license locals methodcaller os quit setattr super type vars sys""".split())
# What a value of an object may be called, though Python's own values have it.
SHARED_NAMES = set("count index title find get join lower upper split strip copy add".split())
NOT_USED = (ast.With, ast.Match, ast.Delete, ast.Global, ast.Nonlocal, ast.Assert, ast.Yield, ast.YieldFrom,
            ast.AsyncFunctionDef, ast.Await, ast.Import, ast.AnnAssign, ast.SetComp, ast.DictComp, ast.Set,
            ast.GeneratorExp, ast.NamedExpr, ast.Starred, ast.Div, ast.MatMult, ast.Lambda)


class Form(unittest.TestCase):
    def each(self):
        for path in FILES:
            text = path.read_text(encoding="utf-8")
            with self.subTest(path.name):
                yield text, ast.parse(text)

    def test_there_are_files(self):
        self.assertIn("messages.py", [path.name for path in FILES])
        self.assertIn("__init__.py", [path.name for path in FILES])

    def test_nothing_else_lies_there(self):
        for path in PACKAGE.rglob("*"):
            if "__pycache__" not in path.parts:
                self.assertRegex(path.name, r"^([a-z][a-z0-9_]*|__init__)\.py$")

    def test_signs_and_lines(self):
        for text, tree in self.each():
            self.assertRegex(text, r"\A[ -~\n]*\Z")
            self.assertLessEqual(len(text.splitlines()), 400)
            self.assertLessEqual(max(len(line) for line in text.splitlines()), 120)
            self.assertIsNone(NOT_WRITTEN.search(text))

    def test_functions_are_short_and_plain(self):
        for text, tree in self.each():
            for node in ast.walk(tree):
                if isinstance(node, ast.FunctionDef):
                    self.assertLessEqual(node.end_lineno - node.lineno + 1, 40, node.name)
                    self.assertFalse(node.decorator_list or node.args.vararg or node.args.kwarg
                                     or node.args.kwonlyargs, node.name)

    def test_imports(self):
        for text, tree in self.each():
            drawn = [node for node in ast.walk(tree) if isinstance(node, ast.ImportFrom)]
            for node in drawn:
                self.assertIn(node, tree.body)
                self.assertEqual(node.level, 0)
                self.assertTrue(node.module.startswith("flatmessages."))

    def test_no_two_files_draw_from_one_another(self):
        drawn = {path.stem: {node.module.split(".")[1] for node in ast.parse(path.read_text()).body
                             if isinstance(node, ast.ImportFrom)} for path in FILES}
        while drawn:
            free = [name for name in drawn if not drawn[name] & set(drawn)]
            self.assertTrue(free, drawn)
            for name in free:
                del drawn[name]

    def test_names_come_from_where_they_are_defined(self):
        for text, tree in self.each():
            for node in tree.body:
                if isinstance(node, ast.ImportFrom):
                    source = ast.parse((PACKAGE / (node.module.split(".")[1] + ".py")).read_text())
                    for name in node.names:
                        self.assertIn(name.name, self.bound_at_top(source))
                        self.assertIsNone(name.asname)

    def bound_at_top(self, tree):
        names = [node.name for node in tree.body if isinstance(node, (ast.FunctionDef, ast.ClassDef))]
        return names + [node.targets[0].id for node in tree.body if isinstance(node, ast.Assign)]

    def test_the_top_of_a_file(self):
        for text, tree in self.each():
            bound = self.bound_at_top(tree)
            bound += [name.name for node in tree.body if isinstance(node, ast.ImportFrom) for name in node.names]
            self.assertEqual(len(bound), len(set(bound)))
            self.assertIsInstance(tree.body[0], ast.Expr)
            for node in tree.body[1:]:
                self.assertIsInstance(node, (ast.ImportFrom, ast.Assign, ast.FunctionDef, ast.ClassDef))
            top = set(bound)
            for node in ast.walk(tree):
                if isinstance(node, ast.FunctionDef):
                    inside = {one.arg for one in ast.walk(node) if isinstance(one, ast.arg)}
                    inside |= {one.id for one in ast.walk(node)
                               if isinstance(one, ast.Name) and isinstance(one.ctx, ast.Store)}
                    self.assertFalse(inside & top, node.name)

    def test_no_name_is_drawn_for_nothing(self):
        for text, tree in self.each():
            used = {node.id for node in ast.walk(tree) if isinstance(node, ast.Name)}
            for node in tree.body:
                if isinstance(node, ast.ImportFrom):
                    for name in node.names:
                        self.assertIn(name.name, used)

    def test_values_of_objects(self):
        taken = {name for kind in (str, int, list, dict, set, bytes, tuple) for name in dir(kind)}
        for text, tree in self.each():
            for node in ast.walk(tree):
                if isinstance(node, ast.Attribute) and isinstance(node.ctx, ast.Store):
                    self.assertNotIn(node.attr, taken - SHARED_NAMES)
                    self.assertNotIn(node.attr, METHODS - SHARED_NAMES)

    def test_statements_and_expressions(self):
        for text, tree in self.each():
            for node in ast.walk(tree):
                self.assertNotIsInstance(node, NOT_USED)
                if isinstance(node, (ast.For, ast.While, ast.Try)):
                    self.assertFalse(isinstance(node, (ast.For, ast.While)) and node.orelse)
                if isinstance(node, ast.Assign):
                    self.assertEqual(len(node.targets), 1)
                if isinstance(node, ast.ListComp):
                    self.assertEqual(len(node.generators), 1)
                if isinstance(node, ast.Constant):
                    self.assertIn(type(node.value), (int, str, bool, type(None)))
                if isinstance(node, ast.Compare) and any(isinstance(op, (ast.Is, ast.IsNot)) for op in node.ops):
                    self.assertIsInstance(node.comparators[0], ast.Constant)

    def test_names(self):
        for text, tree in self.each():
            bound = set()
            for node in ast.walk(tree):
                if isinstance(node, (ast.FunctionDef, ast.ClassDef)):
                    bound.add(node.name)
                elif isinstance(node, ast.alias):
                    bound.add(node.name)
                elif isinstance(node, ast.arg):
                    bound.add(node.arg)
                elif isinstance(node, ast.Name) and isinstance(node.ctx, ast.Store):
                    bound.add(node.id)
            own = bound - {"__init__"}
            for name in own:
                self.assertNotIn(name, NOT_NAMED)
                self.assertRegex(name, r"^[A-Za-z][A-Za-z0-9_]*$")
                self.assertNotIn(name, BUILT_IN)
                self.assertNotIn(name, dir(__builtins__) if not isinstance(__builtins__, dict) else __builtins__)
            for node in ast.walk(tree):
                if isinstance(node, ast.Name):
                    self.assertIn(node.id, own | BUILT_IN)

    def test_methods(self):
        own = {node.name for text, tree in self.each() for node in ast.walk(tree)
               if isinstance(node, ast.FunctionDef)}
        for text, tree in self.each():
            for node in ast.walk(tree):
                if isinstance(node, ast.Call) and isinstance(node.func, ast.Attribute):
                    self.assertIn(node.func.attr, METHODS | own)

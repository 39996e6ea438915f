"""What the package's files may hold: the rules of form that can be seen by looking at them."""

import ast
import builtins
import pathlib
import re
import unittest

PACKAGE = pathlib.Path(__file__).resolve().parent.parent / "relaymoves"
FILES = sorted(path for path in PACKAGE.rglob("*") if "__pycache__" not in path.parts)

OWN_NAMES = set("""len range enumerate zip min max sum abs sorted reversed int str bool list tuple dict set frozenset
    isinstance ord repr any all divmod Exception ValueError TypeError KeyError IndexError LookupError
    ZeroDivisionError ArithmeticError OverflowError RuntimeError NotImplementedError AttributeError
    StopIteration""".split())

METHODS = set("""append clear copy count endswith extend find get index insert isalnum isalpha isdigit islower isspace
    isupper items join keys ljust lower lstrip partition pop remove replace reverse rfind rjust rpartition rsplit
    rstrip setdefault split splitlines startswith strip update upper values zfill bit_length""".split())

NEVER = re.compile(r"\b(type|typing|typing_extensions|enum|Enum|IntEnum|StrEnum|Flag|IntFlag|Generic|Protocol|ABC"
                   r"|ABCMeta|namedtuple|NamedTuple|TypedDict|TYPE_CHECKING|abstractmethod)\b"
                   r"|dataclass|overload|contextmanager")

UNUSED = set("""register mro elements open input version_info with_traceback add_note attrgetter breakpoint builtins
    compile copyright credits delattr dir eval exec exit gc getattr globals hasattr help id importlib license locals
    methodcaller os quit setattr super vars sys format format_map print chr""".split())

ALLOWED = (ast.Module, ast.ImportFrom, ast.alias, ast.FunctionDef, ast.arguments, ast.arg, ast.ClassDef, ast.Assign,
           ast.AugAssign, ast.If, ast.While, ast.For, ast.Return, ast.Break, ast.Continue, ast.Pass, ast.Raise, ast.Try,
           ast.ExceptHandler, ast.Expr, ast.Constant, ast.Name, ast.List, ast.Tuple, ast.Dict, ast.BinOp, ast.UnaryOp,
           ast.BoolOp, ast.Compare, ast.IfExp, ast.Call, ast.keyword, ast.Attribute, ast.Subscript, ast.Slice,
           ast.ListComp, ast.comprehension, ast.JoinedStr, ast.FormattedValue, ast.Lambda, ast.expr_context,
           ast.operator, ast.unaryop, ast.boolop, ast.cmpop)


def bound_names(tree):
    for node in ast.walk(tree):
        if isinstance(node, ast.Name) and isinstance(node.ctx, ast.Store):
            yield node.id
        elif isinstance(node, ast.arg):
            yield node.arg
        elif isinstance(node, (ast.FunctionDef, ast.ClassDef)):
            yield node.name


def top_names(tree):
    for node in tree.body:
        if isinstance(node, ast.Assign):
            yield node.targets[0].id
        elif isinstance(node, (ast.FunctionDef, ast.ClassDef)):
            yield node.name


class Form(unittest.TestCase):
    def trees(self):
        for path in FILES:
            yield ast.parse(path.read_text(), path.name)

    def nodes(self, *kinds):
        for tree in self.trees():
            for node in ast.walk(tree):
                if isinstance(node, kinds):
                    yield node

    def test_files(self):
        self.assertIn(PACKAGE / "__init__.py", FILES)
        self.assertIn(PACKAGE / "scheme.py", FILES)
        for path in FILES:
            self.assertRegex(path.name, r"\A[a-z0-9_]+\.py\Z")

    def test_signs_and_sizes(self):
        for path in FILES:
            text = path.read_bytes().decode("ascii")
            self.assertRegex(text, r"\A[ -~\n]*\Z")
            self.assertIsNone(NEVER.search(text), path.name)
            self.assertLessEqual(len(text.splitlines()), 400)
            self.assertLessEqual(max(map(len, text.splitlines())), 120)

    def test_sizes_of_functions(self):
        for node in self.nodes(ast.FunctionDef):
            self.assertLessEqual(node.end_lineno - node.lineno + 1, 40, node.name)
            self.assertEqual(node.decorator_list, [])

    def test_statements_and_expressions(self):
        for node in self.nodes(ast.AST):
            self.assertIsInstance(node, ALLOWED)
            if isinstance(node, ast.Assign):
                self.assertEqual(len(node.targets), 1)
                self.assertIsInstance(node.targets[0], (ast.Name, ast.Attribute, ast.Subscript))
            if isinstance(node, (ast.For, ast.While)):
                self.assertEqual(node.orelse, [])
            if isinstance(node, ast.Constant):
                self.assertIsInstance(node.value, (int, str, type(None)))
                self.assertNotIn("%", str(node.value))
            self.assertNotIsInstance(node, (ast.Div, ast.MatMult))

    def test_only_the_packages_own_modules_are_drawn_from(self):
        for node in self.nodes(ast.ImportFrom):
            self.assertRegex(node.module, r"\Arelaymoves\.[a-z0-9_]+\Z")
            self.assertEqual(node.level, 0)
            self.assertNotIn("*", [alias.name for alias in node.names])

    def test_names_are_drawn_from_the_file_that_defines_them(self):
        for node in self.nodes(ast.ImportFrom):
            tree = ast.parse((PACKAGE / (node.module.split(".")[1] + ".py")).read_text())
            for alias in node.names:
                self.assertIn(alias.name, top_names(tree))
                self.assertIsNone(alias.asname)

    def test_no_two_files_draw_from_one_another(self):
        drawn = {path.stem: {node.module.split(".")[1] for node in ast.walk(ast.parse(path.read_text()))
                             if isinstance(node, ast.ImportFrom)} for path in FILES}
        while drawn:
            free = [name for name in drawn if not drawn[name] & set(drawn)]
            self.assertNotEqual(free, [], drawn)
            for name in free:
                drawn.pop(name)

    def test_a_name_of_a_files_top_is_bound_once_and_hidden_by_no_local(self):
        for tree in self.trees():
            names = list(top_names(tree)) + [alias.name for node in tree.body if isinstance(node, ast.ImportFrom)
                                             for alias in node.names]
            self.assertEqual(len(names), len(set(names)))
            for function in ast.walk(tree):
                if isinstance(function, ast.FunctionDef):
                    self.assertFalse(set(names) & set(bound_names(function)) - {function.name}, function.name)

    def test_names(self):
        for tree in self.trees():
            for name in bound_names(tree):
                self.assertNotIn(name, dir(builtins))
                self.assertNotIn(name, UNUSED)
                self.assertTrue(name == "__init__" or re.match(r"[A-Za-z]\w*\Z", name, re.ASCII), name)
        for node in self.nodes(ast.Name):
            if node.id in dir(builtins):
                self.assertIn(node.id, OWN_NAMES)
            self.assertNotIn(node.id, UNUSED)

    def test_methods(self):
        own = {node.name for node in self.nodes(ast.FunctionDef)}
        for node in self.nodes(ast.Call):
            if isinstance(node.func, ast.Attribute):
                self.assertIn(node.func.attr, METHODS | own)

    def test_nothing_is_done_at_a_files_top(self):
        for tree in self.trees():
            self.assertIsNotNone(ast.get_docstring(tree))
            for place, node in enumerate(tree.body):
                if isinstance(node, ast.Assign):
                    ast.literal_eval(node.value)
                elif place > 0:
                    self.assertIsInstance(node, (ast.ImportFrom, ast.FunctionDef, ast.ClassDef))


if __name__ == "__main__":
    unittest.main()

"""Holds the package's files to those rules of LANGUAGE.md that can be seen row by row."""

import ast
import builtins
import pathlib
import re
import unittest

PACKAGE = pathlib.Path(__file__).resolve().parent.parent / "choicenet"

STATEMENTS = (ast.Assign, ast.AugAssign, ast.AnnAssign, ast.If, ast.While, ast.For, ast.Return, ast.Break,
              ast.Continue, ast.Pass, ast.Raise, ast.Try, ast.FunctionDef, ast.ClassDef, ast.ImportFrom, ast.Expr)
EXPRESSIONS = (ast.Constant, ast.List, ast.Tuple, ast.Dict, ast.Set, ast.BinOp, ast.UnaryOp, ast.BoolOp, ast.Compare,
               ast.IfExp, ast.Call, ast.Attribute, ast.Subscript, ast.Slice, ast.ListComp, ast.JoinedStr,
               ast.FormattedValue, ast.Lambda, ast.Name)
OWN_OF_PYTHON = """len range enumerate zip min max sum abs sorted reversed int str bool list tuple dict set frozenset
isinstance ord repr any all divmod Exception ValueError TypeError KeyError IndexError LookupError ZeroDivisionError
ArithmeticError OverflowError RuntimeError NotImplementedError AttributeError StopIteration""".split()
METHODS = """append clear copy count endswith extend find get index insert isalnum isalpha isdigit islower isspace
isupper items join keys ljust lower lstrip partition pop remove replace reverse rfind rjust rpartition rsplit rstrip setdefault
split splitlines startswith strip update upper values zfill bit_length""".split()
WORDS_OUT = re.compile(r"\b(type|typing|typing_extensions|enum|Enum|IntEnum|StrEnum|Flag|IntFlag|Generic|Protocol|ABC"
                       r"|ABCMeta|namedtuple|NamedTuple|TypedDict|TYPE_CHECKING|abstractmethod)\b"
                       r"|dataclass|overload|contextmanager")
NAMES_OUT = """register mro elements open input version_info with_traceback add_note attrgetter breakpoint compile
copyright credits delattr dir eval exec exit gc getattr globals hasattr help id importlib license locals methodcaller
os quit setattr super vars sys builtins format format_map""".split()
DOUBLE_UNDERSCORES = ("__init__", "__eq__", "__repr__", "__str__", "__len__")


def files():
    return sorted(PACKAGE.glob("*.py"))


def nodes(kinds):
    """Each node of some kinds in the package, with the file it stands in."""
    for path in files():
        for node in ast.walk(ast.parse(path.read_text("ascii"))):
            if isinstance(node, kinds):
                yield path.name, node


def docstrings(path):
    tree = ast.parse(path.read_text("ascii"))
    if tree.body and isinstance(tree.body[0], ast.Expr):
        yield tree.body[0].lineno


def bound_names(node):
    if isinstance(node, (ast.FunctionDef, ast.ClassDef)):
        return [node.name]
    if isinstance(node, ast.arg):
        return [node.arg]
    if isinstance(node, ast.Name) and isinstance(node.ctx, ast.Store):
        return [node.id]
    if isinstance(node, ast.Attribute) and isinstance(node.ctx, ast.Store):
        return [node.attr]
    return []


class Language(unittest.TestCase):
    def assert_none(self, found):
        self.assertEqual([f"{name}:{getattr(node, 'lineno', '?')} {ast.dump(node)[:120]}" for name, node in found], [])

    def test_files_names_and_signs(self):
        self.assertTrue((PACKAGE / "__init__.py").is_file())
        for path in PACKAGE.iterdir():
            if path.name != "__pycache__":
                self.assertRegex(path.name, r"^[a-z0-9_]+\.py$")
                self.assertFalse(path.stem in dir(builtins) or path.stem in NAMES_OUT or path.stem.startswith("test"))
        for path in files():
            text = path.read_bytes().decode("ascii")
            self.assertIsNone(re.search(r"[^ -~\n]", text), path.name)
            self.assertIsNone(WORDS_OUT.search(text), path.name)
            self.assertLessEqual(len(text.splitlines()), 400, path.name)
            self.assertLessEqual(max(len(row) for row in text.splitlines()), 120, path.name)

    def test_function_sizes(self):
        self.assert_none((name, node) for name, node in nodes(ast.FunctionDef)
                         if node.end_lineno - node.lineno + 1 > 40)

    def test_statements_and_expressions(self):
        self.assert_none((name, node) for name, node in nodes(ast.stmt) if not isinstance(node, STATEMENTS))
        self.assert_none((name, node) for name, node in nodes(ast.expr) if not isinstance(node, EXPRESSIONS))
        self.assert_none((name, node) for name, node in nodes(ast.Assign) if len(node.targets) != 1)
        self.assert_none((name, node) for name, node in nodes((ast.For, ast.While)) if node.orelse)
        self.assert_none((name, node) for name, node in nodes(ast.Try) if node.finalbody)
        self.assert_none((name, node) for name, node in nodes(ast.ListComp)
                         if len(node.generators) > 1 or len(node.generators[0].ifs) > 1)
        self.assert_none((name, node) for name, node in nodes((ast.Div, ast.MatMult)))
        self.assert_none((name, node) for name, node in nodes(ast.Constant)
                         if node.value is not None and not isinstance(node.value, (int, str)))
        self.assert_none((name, node) for name, node in nodes(ast.BinOp)
                         if isinstance(node.op, ast.Pow) and not isinstance(node.right, ast.Constant))

    def test_only_calls_and_the_top_docstring_stand_by_themselves(self):
        tops = {path.name: list(docstrings(path)) for path in files()}
        self.assert_none((name, node) for name, node in nodes(ast.Expr)
                         if not isinstance(node.value, ast.Call) and node.lineno not in tops[name])

    def test_tops_of_files(self):
        kinds = (ast.Expr, ast.ImportFrom, ast.FunctionDef, ast.ClassDef, ast.Assign)
        for path in files():
            tree = ast.parse(path.read_text("ascii"))
            self.assert_none((path.name, node) for node in tree.body if not isinstance(node, kinds))
            inner = [node for node in ast.walk(tree) if isinstance(node, (ast.ImportFrom, ast.ClassDef))]
            self.assert_none((path.name, node) for node in inner if node not in tree.body)
            bound = [name for node in tree.body for name in bound_names(node)]
            self.assertEqual(len(bound), len(set(bound)), path.name)

    def test_imports(self):
        drawn = {path.stem: [] for path in files()}
        for name, node in nodes(ast.ImportFrom):
            self.assertEqual(node.level, 0)
            self.assertRegex(node.module, r"^choicenet\.[a-z_]+$")
            other = PACKAGE / (node.module.partition(".")[2] + ".py")
            own = [bound for top in ast.parse(other.read_text("ascii")).body for bound in bound_names(top)]
            self.assertTrue(all(alias.name in own and alias.asname is None for alias in node.names), name)
            drawn[name[:-3]].append(other.stem)
        done = []
        while len(done) < len(drawn):
            ready = [stem for stem in drawn if stem not in done and all(other in done for other in drawn[stem])]
            self.assertTrue(ready, "files draw from one another in a ring")
            done.extend(ready)

    def test_functions_and_classes(self):
        self.assert_none((name, node) for name, node in nodes((ast.FunctionDef, ast.ClassDef)) if node.decorator_list)
        self.assert_none((name, node) for name, node in nodes(ast.arguments)
                         if node.vararg or node.kwarg or node.kwonlyargs or node.posonlyargs)
        self.assert_none((name, node) for name, node in nodes(ast.ClassDef)
                         if len(node.bases) > 1 or node.keywords
                         or not all(isinstance(inner, (ast.FunctionDef, ast.Pass)) for inner in node.body))

    def test_names(self):
        for name, node in nodes((ast.FunctionDef, ast.ClassDef, ast.arg, ast.Name, ast.Attribute)):
            for bound in bound_names(node):
                self.assertNotIn(bound, NAMES_OUT, name)
                if bound not in DOUBLE_UNDERSCORES:
                    self.assertRegex(bound, r"^[A-Za-z][A-Za-z0-9_]*$", name)
                    self.assertFalse(not isinstance(node, ast.Attribute) and bound in dir(builtins), (name, bound))
        self.assert_none((name, node) for name, node in nodes(ast.Name)
                         if node.id in dir(builtins) and node.id not in OWN_OF_PYTHON)

    def test_methods(self):
        own = [inner.name for _, node in nodes(ast.ClassDef) for inner in node.body
               if isinstance(inner, ast.FunctionDef)]
        stored = [node.attr for _, node in nodes(ast.Attribute) if isinstance(node.ctx, ast.Store)]
        self.assertEqual(set(own) & set(stored), set())
        self.assert_none((name, node) for name, node in nodes(ast.Attribute)
                         if node.attr not in METHODS + own + stored)

    def test_is_and_texts(self):
        for name, node in nodes(ast.Compare):
            for op, right in zip(node.ops, node.comparators):
                if isinstance(op, (ast.Is, ast.IsNot)):
                    self.assertTrue(isinstance(right, ast.Constant) and right.value in (None, True, False), name)
        self.assert_none((name, node) for name, node in nodes(ast.Constant)
                         if isinstance(node.value, str) and "%" in node.value)
        self.assert_none((name, node) for name, node in nodes(ast.FormattedValue)
                         if not isinstance(node.value, ast.Name) or node.format_spec)

    def test_errors_are_made_where_they_are_raised(self):
        self.assert_none((name, node) for name, node in nodes(ast.Raise)
                         if not isinstance(node.exc, ast.Call) or not isinstance(node.exc.func, ast.Name)
                         or not node.exc.func.id[0].isupper())

    def test_lists_and_dicts_of_a_top_are_only_read(self):
        for path in files():
            tree = ast.parse(path.read_text("ascii"))
            kept = [name for top in tree.body if isinstance(top, ast.Assign) for name in bound_names(top.targets[0])]
            read = []
            for node in ast.walk(tree):
                if isinstance(node, ast.Subscript) and isinstance(node.ctx, ast.Load):
                    read.append(node.value)
                if isinstance(node, ast.Compare):
                    read.extend(node.comparators)
            self.assert_none((path.name, node) for node in ast.walk(tree)
                             if isinstance(node, ast.Name) and isinstance(node.ctx, ast.Load)
                             and node.id in kept and node not in read)


if __name__ == "__main__":
    unittest.main()

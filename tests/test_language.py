"""The package keeps to the small part of the language that it's written in, as far as a look at its files tells."""

import ast
import pathlib
import re
import unittest

PACKAGE = pathlib.Path(__file__).resolve().parent.parent / "greatkeys"

STATEMENTS = (
    ast.Module, ast.FunctionDef, ast.ClassDef, ast.ImportFrom, ast.alias, ast.Assign, ast.AugAssign, ast.If, ast.While,
    ast.For, ast.Return, ast.Break, ast.Continue, ast.Pass, ast.Raise, ast.Try, ast.ExceptHandler, ast.Expr,
)
EXPRESSIONS = (
    ast.Constant, ast.Name, ast.Attribute, ast.Subscript, ast.Slice, ast.Call, ast.keyword, ast.BinOp, ast.UnaryOp,
    ast.BoolOp, ast.Compare, ast.IfExp, ast.List, ast.Tuple, ast.Dict, ast.ListComp, ast.comprehension, ast.Lambda,
    ast.JoinedStr, ast.FormattedValue, ast.arguments, ast.arg,
)
SIGNS = (
    ast.Add, ast.Sub, ast.Mult, ast.FloorDiv, ast.Mod, ast.BitAnd, ast.BitOr, ast.BitXor, ast.LShift, ast.RShift,
    ast.Invert, ast.USub, ast.UAdd, ast.Not, ast.And, ast.Or, ast.cmpop, ast.expr_context,
)
OWN_NAMES = set(
    "len range enumerate zip min max sum abs sorted reversed int str bool list tuple dict set frozenset isinstance ord "
    "repr any all divmod Exception ValueError KeyError IndexError LookupError ZeroDivisionError ArithmeticError "
    "OverflowError RuntimeError NotImplementedError".split())
OWN_METHODS = set(
    "append clear copy count endswith extend find get index insert isalnum isalpha isdigit islower isspace isupper "
    "items join keys ljust lower lstrip partition pop remove replace reverse rfind rjust rpartition rsplit rstrip "
    "setdefault split splitlines startswith strip update upper values zfill bit_length".split())
WORDS_LEFT_OUT = set(
    "type typing typing_extensions enum Enum IntEnum StrEnum Flag IntFlag Generic Protocol ABC ABCMeta namedtuple "
    "NamedTuple TypedDict TYPE_CHECKING abstractmethod".split())
NAMES_LEFT_OUT = set(
    "register mro elements open input version_info with_traceback add_note attrgetter breakpoint builtins compile "
    "copyright credits delattr dir eval exec exit gc getattr globals hasattr help id importlib license locals "
    "methodcaller os quit setattr super vars sys format format_map chr pow".split())
PYTHONS_NAMES = set(dir(__builtins__) if not isinstance(__builtins__, dict) else __builtins__)


def files():
    return sorted(PACKAGE.rglob("*.py"))


def trees():
    return [ast.parse(path.read_text(encoding="utf-8"), path.name) for path in files()]


def bound_names(tree):
    for node in ast.walk(tree):
        if isinstance(node, (ast.FunctionDef, ast.ClassDef)):
            yield node.name
        elif isinstance(node, ast.arg):
            yield node.arg
        elif isinstance(node, ast.Name) and isinstance(node.ctx, ast.Store):
            yield node.id
        elif isinstance(node, ast.alias):
            yield node.asname or node.name


def top_names(tree):
    for node in tree.body:
        if isinstance(node, (ast.FunctionDef, ast.ClassDef)):
            yield node.name
        elif isinstance(node, ast.Assign):
            yield from (target.id for target in node.targets)
        elif isinstance(node, ast.ImportFrom):
            yield from (part.name for part in node.names)


def drawn_from(tree):
    """The files that a file imports from, each with the names."""
    found = {}
    for node in tree.body:
        if isinstance(node, ast.ImportFrom):
            found.setdefault(node.module.split(".")[1], []).extend(part.name for part in node.names)
    return found


class Language(unittest.TestCase):
    def test_files(self):
        for path in PACKAGE.rglob("*"):
            if path.name != "__pycache__" and path.parent.name != "__pycache__":
                self.assertRegex(path.name, r"^([a-z][a-z0-9_]*|__init__|__main__)\.py$")
        self.assertIn(PACKAGE / "__init__.py", files())

    def test_signs_and_lines(self):
        for path in files():
            text = path.read_text(encoding="utf-8")
            self.assertRegex(text, r"\A[ -~\n]*\Z", path.name)
            lines = text.split("\n")
            self.assertLessEqual(len(lines), 401, path.name)
            self.assertLessEqual(max(len(line) for line in lines), 120, path.name)
            words = set(re.findall(r"\w+", text))
            self.assertEqual(words & WORDS_LEFT_OUT, set(), path.name)
            self.assertIsNone(re.search("dataclass|overload|contextmanager", text), path.name)

    def test_only_the_listed_parts(self):
        for tree in trees():
            for node in ast.walk(tree):
                self.assertIsInstance(node, STATEMENTS + EXPRESSIONS + SIGNS, getattr(node, "lineno", None))
                if isinstance(node, ast.Constant):
                    self.assertIn(type(node.value), (int, str, bool, type(None)))
                if isinstance(node, ast.Assign):
                    self.assertEqual(len(node.targets), 1, node.lineno)
                if isinstance(node, (ast.For, ast.While)):
                    self.assertEqual(node.orelse, [], node.lineno)
                if isinstance(node, (ast.FunctionDef, ast.ClassDef)):
                    self.assertEqual(node.decorator_list, [], node.lineno)

    def test_functions(self):
        for tree in trees():
            for node in ast.walk(tree):
                if isinstance(node, ast.FunctionDef):
                    self.assertLessEqual(node.end_lineno - node.lineno + 1, 40, node.name)
                    given = node.args
                    self.assertIsNone(given.vararg or given.kwarg, node.name)
                    self.assertEqual(given.kwonlyargs + given.posonlyargs, [], node.name)

    def test_the_top_of_a_file(self):
        for tree in trees():
            self.assertIsNotNone(ast.get_docstring(tree))
            for node in tree.body[1:]:
                self.assertIsInstance(node, (ast.ImportFrom, ast.FunctionDef, ast.ClassDef, ast.Assign))
                if isinstance(node, ast.Assign):
                    for part in ast.walk(node.value):
                        self.assertNotIsInstance(part, (ast.Call, ast.ListComp, ast.Lambda), node.lineno)

    def test_imports(self):
        for tree in trees():
            for node in ast.walk(tree):
                if isinstance(node, ast.ImportFrom):
                    self.assertEqual(node.level, 0)
                    self.assertRegex(node.module, r"^greatkeys\.\w+$")
                    self.assertTrue((PACKAGE / (node.module.split(".")[1] + ".py")).is_file())

    def test_imports_come_from_where_the_name_is_defined(self):
        by_file = {path.stem: tree for path, tree in zip(files(), trees())}
        for tree in by_file.values():
            for drawn, names in drawn_from(tree).items():
                from_elsewhere = [name for more in drawn_from(by_file[drawn]).values() for name in more]
                self.assertEqual(set(names) - (set(top_names(by_file[drawn])) - set(from_elsewhere)), set())

    def test_no_two_files_draw_from_one_another(self):
        left = {path.stem: set(drawn_from(tree)) for path, tree in zip(files(), trees())}
        while left:
            free = [name for name in left if not left[name] & set(left)]
            self.assertNotEqual(free, [], f"a circle among {sorted(left)}")
            for name in free:
                left.pop(name)

    def test_each_top_name_once_and_no_local_like_a_class_or_import(self):
        for tree in trees():
            names = list(top_names(tree))
            self.assertEqual(len(names), len(set(names)))
            taken = {node.name for node in tree.body if isinstance(node, ast.ClassDef)}
            taken.update(name for more in drawn_from(tree).values() for name in more)
            for function in ast.walk(tree):
                if isinstance(function, ast.FunctionDef):
                    inner = {node.arg for node in ast.walk(function) if isinstance(node, ast.arg)}
                    inner.update(
                        node.id for node in ast.walk(function)
                        if isinstance(node, ast.Name) and isinstance(node.ctx, ast.Store))
                    self.assertEqual(inner & taken, set(), function.name)

    def test_no_name_is_a_method_and_a_value(self):
        methods = set()
        stored = set()
        for tree in trees():
            for node in ast.walk(tree):
                if isinstance(node, ast.ClassDef):
                    methods.update(part.name for part in node.body if isinstance(part, ast.FunctionDef))
                elif isinstance(node, ast.Attribute) and isinstance(node.ctx, ast.Store):
                    stored.add(node.attr)
        self.assertEqual(methods & stored, set())

    def test_names(self):
        for tree in trees():
            bound = set(bound_names(tree))
            for name in bound - {"__init__", "__eq__", "__repr__", "__str__", "__len__"}:
                self.assertRegex(name, r"^[A-Za-z][A-Za-z0-9_]*$")
                self.assertNotIn(name, PYTHONS_NAMES | NAMES_LEFT_OUT)
            for node in ast.walk(tree):
                if isinstance(node, ast.Name) and isinstance(node.ctx, ast.Load):
                    self.assertIn(node.id, bound | OWN_NAMES, node.lineno)

    def test_methods_and_values(self):
        own = set()
        for tree in trees():
            own.update(bound_names(tree))
            for node in ast.walk(tree):
                if isinstance(node, ast.Attribute) and isinstance(node.ctx, ast.Store):
                    own.add(node.attr)
        for tree in trees():
            for node in ast.walk(tree):
                if isinstance(node, ast.Attribute):
                    self.assertIn(node.attr, own | OWN_METHODS, node.lineno)
                    self.assertNotIn(node.attr, NAMES_LEFT_OUT, node.lineno)

"""The package's own files keep to the form that can be told from their text."""

import ast
import builtins
import pathlib
import re
import unittest

PACKAGE = pathlib.Path(__file__).resolve().parent.parent / "fireseasons"

ALLOWED_BUILTINS = set("""
    len range enumerate zip min max sum abs sorted reversed int str bool list tuple dict set frozenset
    isinstance ord repr any all divmod Exception ValueError TypeError KeyError IndexError LookupError
    ZeroDivisionError ArithmeticError OverflowError RuntimeError NotImplementedError AttributeError StopIteration
""".split())

UNUSED_WORDS = re.compile(
    r"\b(type|typing|typing_extensions|enum|Enum|IntEnum|StrEnum|Flag|IntFlag|Generic|Protocol|ABC|ABCMeta"
    r"|namedtuple|NamedTuple|TypedDict|TYPE_CHECKING|abstractmethod)\b|dataclass|overload|contextmanager"
)

UNUSED_FORMS = (
    ast.Import, ast.With, ast.Match, ast.Delete, ast.Global, ast.Nonlocal, ast.Assert, ast.Yield,
    ast.YieldFrom, ast.AsyncFunctionDef, ast.AsyncFor, ast.AsyncWith, ast.Await, ast.SetComp, ast.DictComp,
    ast.GeneratorExp, ast.NamedExpr, ast.Starred, ast.Div, ast.AnnAssign, ast.Set,
)

OWN_METHODS = ("__init__",)


def sources():
    """Each file of the package with its text."""
    return [(path.name, path.read_text(encoding="utf-8")) for path in sorted(PACKAGE.glob("*.py"))]


def nodes(kind):
    """Each node of this kind in the package, with its file's name."""
    return [(name, node) for name, text in sources() for node in ast.walk(ast.parse(text)) if isinstance(node, kind)]


def defined(module):
    """The names that a module of the package gives at its top."""
    names = set()
    for node in ast.parse((PACKAGE / (module.split(".")[1] + ".py")).read_text(encoding="utf-8")).body:
        if isinstance(node, (ast.FunctionDef, ast.ClassDef)):
            names.add(node.name)
        if isinstance(node, ast.Assign):
            names.update(target.id for target in node.targets)
    return names


def in_a_ring(drawn):
    """The files that draw on others for ever; none where those that draw on nothing can be taken off in turn."""
    left = dict(drawn)
    while True:
        free = [name for name in left if not any(other in left for other in left[name])]
        if not free:
            return sorted(left)
        for name in free:
            del left[name]


class Form(unittest.TestCase):
    def test_nothing_but_python_files_lies_in_the_package(self):
        names = sorted(path.name for path in PACKAGE.iterdir() if path.name != "__pycache__")
        self.assertIn("__init__.py", names)
        self.assertIn("season.py", names)
        self.assertEqual([name for name in names if not re.fullmatch(r"[a-z0-9_]+\.py", name)], [])

    def test_signs_and_sizes(self):
        for name, text in sources():
            lines = text.split("\n")
            self.assertLessEqual(len(lines) - 1, 400, name)
            self.assertLessEqual(max(len(row) for row in lines), 120, name)
            self.assertEqual([sign for sign in text if sign != "\n" and not " " <= sign <= "~"], [], name)
            self.assertIsNone(UNUSED_WORDS.search(text), name)

    def test_functions_are_short_and_plain(self):
        for name, node in nodes(ast.FunctionDef):
            where = f"{name}: {node.name}"
            self.assertLessEqual(node.end_lineno - node.lineno + 1, 40, where)
            self.assertEqual(node.decorator_list, [], where)
            self.assertIsNone(node.args.vararg or node.args.kwarg, where)
            self.assertEqual(node.args.kwonlyargs, [], where)
            self.assertTrue(node.name in OWN_METHODS or not node.name.startswith("_"), where)

    def test_forms_that_are_not_used(self):
        for form in UNUSED_FORMS:
            self.assertEqual([(name, node.lineno) for name, node in nodes(form)], [], form.__name__)

    def test_imports_draw_on_the_package_alone_at_the_top(self):
        drawn = {}
        for name, text in sources():
            tree = ast.parse(text)
            rows = [node for node in ast.walk(tree) if isinstance(node, ast.ImportFrom)]
            self.assertEqual([row.lineno for row in rows if row not in tree.body], [], name)
            for row in rows:
                where = f"{name}:{row.lineno}"
                self.assertEqual(row.level, 0, where)
                self.assertRegex(row.module, r"\Afireseasons\.[a-z0-9_]+\Z", where)
                self.assertEqual([one.name for one in row.names if one.name not in defined(row.module)], [], where)
            drawn[name] = [row.module.split(".")[1] + ".py" for row in rows]
        self.assertEqual(in_a_ring(drawn), [])

    def test_no_name_is_a_method_here_and_a_value_there(self):
        classes = [node for name, node in nodes(ast.ClassDef)]
        methods = {one.name for node in classes for one in node.body if isinstance(one, ast.FunctionDef)}
        values = {node.attr for name, node in nodes(ast.Attribute) if isinstance(node.ctx, ast.Store)}
        self.assertEqual(methods & values, set())

    def test_no_other_name_of_pythons_own(self):
        for name, node in nodes(ast.Name):
            if hasattr(builtins, node.id):
                self.assertIn(node.id, ALLOWED_BUILTINS, f"{name}:{node.lineno}")
                self.assertIsInstance(node.ctx, ast.Load, f"{name}:{node.lineno}")

    def test_values_are_whole_numbers_and_texts(self):
        for name, node in nodes(ast.Constant):
            self.assertIn(type(node.value), (int, str, bool, type(None)), f"{name}:{node.lineno}")

"""The package keeps to the rules of its language, as far as a short look can see it."""

import ast
import builtins
import pathlib
import re
import unittest

PACKAGE = pathlib.Path(__file__).resolve().parent.parent / "fivehues"

OWN_NAMES = set(
    "len range enumerate zip min max sum abs sorted reversed int str bool bytes list tuple dict set frozenset"
    " isinstance ord repr any all divmod Exception ValueError TypeError KeyError IndexError LookupError"
    " ZeroDivisionError ArithmeticError OverflowError RuntimeError NotImplementedError AttributeError"
    " StopIteration".split()
)
OWN_METHODS = set(
    "append clear copy count endswith extend find get index insert isalnum isalpha isdigit islower isspace"
    " isupper items join keys ljust lower lstrip partition pop remove replace reverse rfind rjust rpartition"
    " rsplit rstrip setdefault split splitlines startswith strip update upper values zfill bit_length sort"
    " title capitalize swapcase casefold center removeprefix removesuffix rindex isascii"
    " isdecimal isnumeric istitle isidentifier isprintable __init__".split()
)
OUT = (
    ast.With, ast.AsyncWith, ast.AsyncFor, ast.AsyncFunctionDef, ast.Await, ast.Match, ast.Global,
    ast.Nonlocal, ast.Yield, ast.YieldFrom, ast.NamedExpr, ast.GeneratorExp, ast.Div, ast.Import, ast.MatMult,
)
WALKED_AT_ONCE = set("zip enumerate reversed range items keys values".split())
WALKERS = set("list tuple dict sorted sum any all enumerate zip min max join".split())
WORDS_OUT = re.compile(
    r"\b(type|typing|typing_extensions|enum|Enum|IntEnum|StrEnum|Flag|IntFlag|Generic|Protocol|ABC|ABCMeta"
    r"|namedtuple|NamedTuple|TypedDict|TYPE_CHECKING|abstractmethod)\b|dataclass|overload|contextmanager"
)
NAMES_OUT = set(
    "register mro elements open input version_info with_traceback add_note attrgetter breakpoint builtins"
    " compile copyright credits delattr dir eval exec exit gc getattr globals hasattr help id importlib"
    " license locals methodcaller os quit setattr super sys vars format format_map".split()
)


def sources():
    return {path.stem: path.read_text("utf-8") for path in sorted(PACKAGE.glob("*.py"))}


TEXTS = sources()
TREES = {name: ast.parse(text) for name, text in TEXTS.items()}


def nodes(*kinds):
    return [(name, node) for name, tree in TREES.items() for node in ast.walk(tree) if isinstance(node, kinds)]


def tops(tree):
    """The names that a file's top gives itself."""
    named = [row.name for row in tree.body if isinstance(row, (ast.FunctionDef, ast.ClassDef))]
    rows = [row for row in tree.body if isinstance(row, ast.Assign)]
    return named + [target.id for row in rows for target in row.targets]


def drawn(name):
    """The files that a file draws from."""
    rows = [row for row in TREES[name].body if isinstance(row, ast.ImportFrom)]
    return [row.module.split(".")[1] for row in rows if row.module != "__future__"]


def given_names():
    """All names that are given, with their files."""
    given = [(name, node.arg) for name, node in nodes(ast.arg)]
    given += [(name, node.id) for name, node in nodes(ast.Name) if isinstance(node.ctx, ast.Store)]
    given += [(name, node.name) for name, node in nodes(ast.FunctionDef, ast.ClassDef)]
    return given


def with_parents(*kinds):
    """All nodes of some kinds, with their files and the nodes in which they stand."""
    pairs = [(name, parent, node) for name, parent in nodes(ast.AST) for node in ast.iter_child_nodes(parent)]
    return [(name, parent, node) for name, parent, node in pairs if isinstance(node, kinds)]


def called(node):
    """The name by which something is called, or None where nothing is."""
    if not isinstance(node, ast.Call):
        return None
    return node.func.attr if isinstance(node.func, ast.Attribute) else getattr(node.func, "id", None)


def methods():
    return [row.name for name, node in nodes(ast.ClassDef) for row in node.body if isinstance(row, ast.FunctionDef)]


class Language(unittest.TestCase):
    def test_files(self):
        for path in PACKAGE.iterdir():
            if path.name != "__pycache__":
                self.assertRegex(path.name, r"^[a-z0-9_]+\.py$")

    def test_sizes_and_signs(self):
        for name, text in TEXTS.items():
            self.assertRegex(text, r"^[ -~\n]*\Z", name)
            self.assertLessEqual(len(text.split("\n")), 400, name)
            self.assertLessEqual(max(len(row) for row in text.split("\n")), 120, name)
        for name, node in nodes(ast.FunctionDef):
            self.assertLessEqual(node.end_lineno - node.lineno + 1, 40, (name, node.name))

    def test_words(self):
        for name, text in TEXTS.items():
            self.assertIsNone(WORDS_OUT.search(text), name)

    def test_imports(self):
        for name, node in nodes(ast.ImportFrom):
            self.assertIn(node, TREES[name].body, name)
            self.assertEqual(node.level, 0, name)
            if node.module != "__future__":
                package, module = node.module.split(".")
                self.assertEqual(package, "fivehues", name)
                for row in node.names:
                    self.assertIn(row.name, tops(TREES[module]), name)

    def test_no_two_files_draw_from_one_another(self):
        left = {name: drawn(name) for name in TREES}
        while left:
            free = [name for name in left if not set(left[name]) & set(left)]
            self.assertTrue(free, left)
            for name in free:
                del left[name]

    def test_statements_and_expressions(self):
        self.assertEqual([(name, node.lineno) for name, node in nodes(*OUT) if hasattr(node, "lineno")], [])
        self.assertEqual(nodes(ast.Div, ast.MatMult), [])
        for name, node in nodes(ast.For, ast.While):
            self.assertEqual(node.orelse, [], (name, node.lineno))
        for name, node in nodes(ast.Starred):
            self.assertIsInstance(node.ctx, ast.Store, (name, node.lineno))
        for name, node in nodes(ast.FormattedValue):
            self.assertIsNone(node.format_spec, (name, node.lineno))
        for name, node in nodes(ast.Constant):
            self.assertNotIsInstance(node.value, (float, complex), (name, node.lineno))
            if isinstance(node.value, str):
                self.assertNotIn("%", node.value, (name, node.lineno))

    def test_functions_and_classes(self):
        for name, node in nodes(ast.FunctionDef, ast.ClassDef):
            self.assertEqual(node.decorator_list, [], (name, node.name))
        for name, node in nodes(ast.arguments):
            self.assertEqual((node.posonlyargs, node.vararg, node.kwarg), ([], None, None), name)
        for name, node in nodes(ast.ClassDef):
            self.assertIn(node, TREES[name].body)
            self.assertLessEqual(len(node.bases), 1, node.name)

    def test_names(self):
        for name, given in given_names():
            if given not in ("__init__", "__eq__", "__repr__", "__str__", "__len__", "__all__", "__version__"):
                self.assertRegex(given, r"^[A-Za-z][A-Za-z0-9_]*\Z", name)
            self.assertNotIn(given, NAMES_OUT, name)
        for name, node in nodes(ast.arg):
            self.assertNotIn(node.arg, dir(builtins), name)
        for name, node in nodes(ast.Name):
            if isinstance(node.ctx, ast.Store):
                self.assertNotIn(node.id, dir(builtins), name)
            elif node.id in dir(builtins):
                self.assertIn(node.id, OWN_NAMES, (name, node.lineno))

    def test_no_local_is_called_like_a_class_or_an_import(self):
        for name, tree in TREES.items():
            taken = [row.name for row in tree.body if isinstance(row, ast.ClassDef)]
            taken += [one.name for row in tree.body if isinstance(row, ast.ImportFrom) for one in row.names]
            given = [node.arg for node in ast.walk(tree) if isinstance(node, ast.arg)]
            given += [
                node.id for node in ast.walk(tree) if isinstance(node, ast.Name) and isinstance(node.ctx, ast.Store)
            ]
            self.assertEqual(set(taken) & set(given), set(), name)

    def test_names_of_a_top_stand_once(self):
        for name, tree in TREES.items():
            self.assertEqual(len(tops(tree)), len(set(tops(tree))), name)

    def test_attributes(self):
        values = [node.attr for name, node in nodes(ast.Attribute) if isinstance(node.ctx, ast.Store)]
        self.assertEqual(set(values) & set(methods()), set())
        for name, node in nodes(ast.Attribute):
            self.assertIn(node.attr, OWN_METHODS | set(methods()) | set(values), (name, node.lineno))

    def test_sets_are_not_kept(self):
        # No set is kept, as the document asks for a class with a method add.
        for name, parent, node in with_parents(ast.Set, ast.SetComp, ast.Call):
            if called(node) == "set" or not isinstance(node, ast.Call):
                within = isinstance(parent, ast.Compare) or called(parent) in ("sorted", "len")
                self.assertTrue(within, (name, node.lineno))

    def test_what_is_walked_at_once(self):
        for name, parent, node in with_parents(ast.Call):
            if called(node) in WALKED_AT_ONCE:
                within = isinstance(parent, (ast.For, ast.comprehension)) or called(parent) in WALKERS
                self.assertTrue(within, (name, node.lineno))

    def test_is_stands_beside_none_true_and_false_alone(self):
        for name, node in nodes(ast.Compare):
            for sign, thing in zip(node.ops, node.comparators):
                if isinstance(sign, (ast.Is, ast.IsNot)):
                    self.assertIsInstance(thing, ast.Constant, (name, node.lineno))
                    self.assertIn(repr(thing.value), ("None", "True", "False"), (name, node.lineno))


if __name__ == "__main__":
    unittest.main()

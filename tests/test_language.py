"""The part of LANGUAGE.md that can be read off the package's files one by one."""

import ast
import builtins
import pathlib
import re
import unittest

FOLDER = pathlib.Path(__file__).resolve().parent.parent / "movingclocks"
FILES = sorted(path for path in FOLDER.rglob("*") if "__pycache__" not in path.parts)

STATEMENTS = (
    ast.FunctionDef, ast.ClassDef, ast.ImportFrom, ast.Assign, ast.AugAssign, ast.If, ast.While, ast.For, ast.Return,
    ast.Break, ast.Continue, ast.Pass, ast.Raise, ast.Try, ast.Expr,
)
NOT_EXPRESSIONS = (
    ast.SetComp, ast.DictComp, ast.GeneratorExp, ast.NamedExpr, ast.Starred, ast.Await, ast.Yield, ast.YieldFrom,
    ast.Div, ast.MatMult,
)
OWN_NAMES = (
    "len range enumerate zip min max sum abs sorted reversed int str bool list tuple dict set frozenset isinstance ord "
    "repr any all divmod Exception ValueError TypeError KeyError IndexError LookupError ZeroDivisionError "
    "ArithmeticError OverflowError RuntimeError NotImplementedError AttributeError StopIteration"
).split()
METHODS = (
    "append clear copy count endswith extend find get index insert isalnum isalpha isdigit islower isspace isupper items "
    "join keys ljust lower lstrip partition pop remove replace reverse rfind rjust rpartition rsplit rstrip setdefault "
    "split splitlines startswith strip update upper values zfill bit_length"
).split()
WORDS = (
    r"\b(type|typing|typing_extensions|enum|Enum|IntEnum|StrEnum|Flag|IntFlag|Generic|Protocol|ABC|ABCMeta|namedtuple|"
    r"NamedTuple|TypedDict|TYPE_CHECKING|abstractmethod)\b|dataclass|overload|contextmanager"
)


def trees():
    return [(path.name, ast.parse(path.read_text("ascii"))) for path in FILES]


def nodes(kind):
    return [(name, node) for name, tree in trees() for node in ast.walk(tree) if isinstance(node, kind)]


def bound_names(tree):
    names = set()
    for node in ast.walk(tree):
        if isinstance(node, (ast.FunctionDef, ast.ClassDef)):
            names.add(node.name)
        elif isinstance(node, ast.arg):
            names.add(node.arg)
        elif isinstance(node, ast.alias):
            names.add(node.name)
        elif isinstance(node, ast.Name) and isinstance(node.ctx, ast.Store):
            names.add(node.id)
    return names


def top_names(tree):
    """The names that a file's top binds itself, in their order."""
    names = []
    for node in tree.body:
        if isinstance(node, (ast.FunctionDef, ast.ClassDef)):
            names.append(node.name)
        elif isinstance(node, ast.Assign):
            names.append(node.targets[0].id)
    return names


def imported_names(tree):
    return [(node.module, alias.name) for node in tree.body if isinstance(node, ast.ImportFrom) for alias in node.names]


def module_of(name):
    return "movingclocks." + name.removesuffix(".py")


class Language(unittest.TestCase):
    def test_l1_l14_files_and_signs(self):
        self.assertTrue(FILES)
        for path in FILES:
            self.assertRegex(path.name, r"^(__init__|[a-z][a-z0-9_]*)\.py$")
            self.assertRegex(path.read_bytes(), rb"^[\n -~]*\Z")

    def test_l2_l16_imports(self):
        for name, node in nodes((ast.Import, ast.ImportFrom)):
            self.assertIsInstance(node, ast.ImportFrom, name)
            self.assertEqual(node.level, 0, name)
            self.assertTrue(node.module.startswith("movingclocks."), name)
            self.assertTrue(all(alias.name != "*" and alias.asname is None for alias in node.names), name)

    def test_l3_the_top_of_a_module(self):
        for name, tree in trees():
            self.assertIsNotNone(ast.get_docstring(tree), name)
            for node in tree.body[1:]:
                self.assertIsInstance(node, (ast.ImportFrom, ast.FunctionDef, ast.ClassDef, ast.Assign), name)
                if not isinstance(node, ast.Assign):
                    continue
                above = top_names(tree)[:top_names(tree).index(node.targets[0].id)]
                for part in ast.walk(node.value):
                    plain = (ast.Constant, ast.List, ast.Tuple, ast.Dict, ast.Name, ast.Load, ast.UnaryOp, ast.USub)
                    self.assertIsInstance(part, plain, (name, node.lineno))
                    if isinstance(part, ast.Name):
                        self.assertIn(part.id, above, (name, node.lineno))
                    if part is not node.value:
                        self.assertNotIsInstance(part, (ast.List, ast.Dict), (name, node.lineno))

    def test_l15_each_name_once(self):
        for name, tree in trees():
            names = top_names(tree) + [imported for module, imported in imported_names(tree)]
            self.assertEqual(len(names), len(set(names)), name)
            at_top = {node for node in tree.body if isinstance(node, ast.Assign)}
            kept = {node.targets[0].id for node in at_top}
            kept |= {imported for module, imported in imported_names(tree)}
            kept |= {node.name for node in tree.body if isinstance(node, ast.ClassDef)}
            for node in ast.walk(tree):
                if isinstance(node, ast.arg):
                    self.assertNotIn(node.arg, kept, name)
                if isinstance(node, ast.Assign) and node not in at_top or isinstance(node, (ast.For, ast.AugAssign)):
                    target = node.targets[0] if isinstance(node, ast.Assign) else node.target
                    self.assertNotIn(getattr(target, "id", None), kept, (name, node.lineno))

    def test_l16_from_the_very_file_and_in_no_ring(self):
        defined = {module_of(name): top_names(tree) for name, tree in trees()}
        drawn = {module_of(name): {module for module, word in imported_names(tree)} for name, tree in trees()}
        for name, tree in trees():
            for module, word in imported_names(tree):
                self.assertIn(word, defined[module], name)
        while drawn:
            free = [module for module in drawn if not drawn[module] & set(drawn)]
            self.assertTrue(free, drawn)
            for module in free:
                del drawn[module]
        self.assertEqual([module for module in defined if "answers" in defined[module]], ["movingclocks.clocks"])
        self.assertEqual(defined["movingclocks.__init__"], [])

    def test_l18_l25_methods_and_values(self):
        methods = {
            node.name for name, kind in nodes(ast.ClassDef) for node in kind.body if isinstance(node, ast.FunctionDef)
        }
        values = {
            node.attr for name, node in nodes(ast.Attribute) if isinstance(node.ctx, ast.Store)
        }
        self.assertFalse(methods & values)
        of_python = {word for kind in (str, int, list, dict, set, bytes) for word in dir(kind)}
        self.assertFalse((methods - {"__init__"} | values) & of_python)
        for name, node in nodes(ast.Attribute):
            self.assertIn(node.attr, methods | values | set(METHODS), (name, node.lineno))

    def test_l20_is_stands_beside_none_true_and_false(self):
        for name, node in nodes(ast.Compare):
            for sign, right in zip(node.ops, node.comparators):
                if isinstance(sign, (ast.Is, ast.IsNot)):
                    self.assertIn(getattr(right, "value", right), (None, True, False), (name, node.lineno))

    def test_l4_functions(self):
        for name, node in nodes(ast.FunctionDef):
            given = node.args
            self.assertFalse(node.decorator_list or given.vararg or given.kwarg or given.kwonlyargs, (name, node.name))

    def test_l6_l7_statements_and_expressions(self):
        for name, node in nodes(ast.stmt):
            self.assertIsInstance(node, STATEMENTS, (name, node.lineno))
            if isinstance(node, ast.Assign):
                self.assertEqual(len(node.targets), 1, (name, node.lineno))
            if isinstance(node, (ast.For, ast.While)):
                self.assertFalse(node.orelse, (name, node.lineno))
        for name, node in nodes(NOT_EXPRESSIONS):
            self.fail((name, node))
        for name, node in nodes(ast.Constant):
            self.assertNotIsInstance(node.value, (float, complex, bytes), (name, node.lineno))

    def test_l8_l12_l15_names(self):
        for name, tree in trees():
            bound = bound_names(tree)
            for word in bound - {"__init__"}:
                self.assertFalse(word.startswith("_") or word in dir(builtins), (name, word))
            for node in ast.walk(tree):
                if isinstance(node, ast.Name):
                    self.assertTrue(node.id in bound or node.id in OWN_NAMES, (name, node.id))

    def test_l10_size(self):
        for path in FILES:
            lines = path.read_text("ascii").split("\n")
            self.assertLessEqual(len(lines), 399, path.name)
            self.assertLessEqual(max(len(line) for line in lines), 120, path.name)
        for name, node in nodes(ast.FunctionDef):
            self.assertLessEqual(node.end_lineno - node.lineno + 1, 40, (name, node.name))

    def test_l17_words(self):
        for path in FILES:
            self.assertIsNone(re.search(WORDS, path.read_text("ascii")), path.name)


if __name__ == "__main__":
    unittest.main()

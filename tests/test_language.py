"""The package keeps to the part of Python that it is written in: what of it a look at the code can tell."""

import ast
import builtins
import pathlib
import re
import unittest

import rollforce

FOLDER = pathlib.Path(rollforce.__file__).parent
FILES = sorted(path for path in FOLDER.iterdir() if path.name != "__pycache__")

LEFT_OUT = (
    ast.With, ast.Match, ast.Delete, ast.Global, ast.Nonlocal, ast.Assert, ast.Yield, ast.YieldFrom, ast.Await,
    ast.AsyncFunctionDef, ast.AsyncFor, ast.AsyncWith, ast.SetComp, ast.DictComp, ast.GeneratorExp, ast.NamedExpr,
    ast.Starred, ast.Set, ast.AnnAssign, ast.Import, ast.Div, ast.MatMult,
)
BUILT_IN = (
    "len range enumerate zip min max sum abs sorted reversed int str bool list tuple dict set frozenset isinstance ord"
    " repr any all divmod Exception ValueError TypeError KeyError IndexError LookupError ZeroDivisionError"
    " ArithmeticError OverflowError RuntimeError NotImplementedError AttributeError StopIteration"
).split()
METHODS = (
    "append clear copy count endswith extend find get index insert isalnum isalpha isdigit islower isspace isupper"
    " items join keys ljust lower lstrip partition pop remove replace reverse rfind rjust rpartition rsplit rstrip"
    " setdefault split splitlines startswith strip update upper values zfill bit_length"
).split()
PYTHONS_OWN = {name for kind in (str, int, list, dict, set, bytes, tuple) for name in dir(kind)}
WORDS = re.compile(
    r"\b(type|typing|typing_extensions|enum|Enum|IntEnum|StrEnum|Flag|IntFlag|Generic|Protocol|ABC|ABCMeta|namedtuple"
    r"|NamedTuple|TypedDict|TYPE_CHECKING|abstractmethod)\b|dataclass|overload|contextmanager"
)

TEXTS = {path.name: path.read_text(encoding="utf-8") for path in FILES}
TREES = {name: ast.parse(text) for name, text in TEXTS.items()}


class Language(unittest.TestCase):
    def test_files(self):
        self.assertTrue((FOLDER / "__init__.py").exists())
        for path in FILES:
            self.assertRegex(path.name, r"^([a-z][a-z0-9_]*|__init__|__main__)\.py$")

    def test_signs_words_and_sizes(self):
        for name, tree in TREES.items():
            with self.subTest(file=name):
                text = TEXTS[name]
                self.assertRegex(text, r"\A[ -~\n]*\Z")
                self.assertIsNone(WORDS.search(text))
                self.assertLessEqual(text.count("\n"), 400)
                self.assertLessEqual(max(len(line) for line in text.split("\n")), 120)
                for node in ast.walk(tree):
                    if isinstance(node, ast.FunctionDef):
                        self.assertLessEqual(node.end_lineno - node.lineno + 1, 40, node.name)

    def test_statements_and_expressions(self):
        for name, tree in TREES.items():
            with self.subTest(file=name):
                for node in ast.walk(tree):
                    self.assertNotIsInstance(node, LEFT_OUT)
                    if isinstance(node, (ast.For, ast.While)):
                        self.assertEqual(node.orelse, [])
                    if isinstance(node, ast.Try):
                        self.assertEqual(node.finalbody, [])
                    if isinstance(node, ast.Assign):
                        self.assertEqual(len(node.targets), 1)
                        self.assertNotIsInstance(node.targets[0], (ast.Tuple, ast.List))
                    if isinstance(node, (ast.FunctionDef, ast.ClassDef)):
                        self.assertEqual(node.decorator_list, [])
                    if isinstance(node, ast.Constant):
                        self.assertNotIsInstance(node.value, (float, complex, bytes))

    def test_the_top_of_a_file(self):
        plain = (ast.Constant, ast.Tuple, ast.List, ast.Dict, ast.Load, ast.UnaryOp, ast.USub)
        for name, tree in TREES.items():
            with self.subTest(file=name):
                self.assertIsNotNone(ast.get_docstring(tree))
                for statement in tree.body[1:]:
                    self.assertIsInstance(statement, (ast.ImportFrom, ast.FunctionDef, ast.ClassDef, ast.Assign))
                    if isinstance(statement, ast.ImportFrom):
                        self.assertEqual(statement.level, 0)
                        self.assertRegex(statement.module, r"^rollforce\.[a-z]+$")
                    if isinstance(statement, ast.Assign):
                        for node in ast.walk(statement.value):
                            self.assertIsInstance(node, plain)

    def test_names(self):
        own_methods = set()
        own_values = set()
        for name, tree in TREES.items():
            with self.subTest(file=name):
                tops = {target.id for node in tree.body if isinstance(node, ast.Assign) for target in node.targets}
                tops |= {node.name for node in tree.body if isinstance(node, (ast.FunctionDef, ast.ClassDef))}
                tops |= {alias.name for node in tree.body if isinstance(node, ast.ImportFrom) for alias in node.names}
                for node in ast.walk(tree):
                    if isinstance(node, ast.ClassDef):
                        own_methods |= {part.name for part in node.body if isinstance(part, ast.FunctionDef)}
                    if isinstance(node, ast.Attribute) and isinstance(node.ctx, ast.Store):
                        own_values.add(node.attr)
                    if isinstance(node, (ast.arg, ast.Name)):
                        word = node.arg if isinstance(node, ast.arg) else node.id
                        self.assertRegex(word, r"^[A-Za-z]")
                        if isinstance(node, ast.arg) or isinstance(node.ctx, ast.Store) and node.col_offset > 0:
                            self.assertNotIn(word, tops)
                            self.assertNotIn(word, dir(builtins))
        self.assertEqual(own_methods & own_values, set())
        self.assertEqual((own_methods | own_values) & PYTHONS_OWN, {"__init__"})

    def test_pythons_own_names_and_methods(self):
        own = set()
        for tree in TREES.values():
            for node in ast.walk(tree):
                if isinstance(node, (ast.FunctionDef, ast.ClassDef)):
                    own.add(node.name)
        for tree in TREES.values():
            for node in ast.walk(tree):
                if isinstance(node, ast.Call) and isinstance(node.func, ast.Name):
                    self.assertIn(node.func.id, own | set(BUILT_IN))
                if isinstance(node, ast.Call) and isinstance(node.func, ast.Attribute):
                    self.assertIn(node.func.attr, own | set(METHODS))
                if isinstance(node, ast.ExceptHandler):
                    self.assertIn(node.type.id, own)

    def test_imports_come_from_the_file_that_defines_the_name_and_go_one_way(self):
        drawn = {}
        for name, tree in TREES.items():
            drawn[name] = set()
            for node in ast.walk(tree):
                if isinstance(node, ast.ImportFrom):
                    source = node.module.split(".")[1] + ".py"
                    drawn[name].add(source)
                    top = TREES[source].body
                    defined = {part.name for part in top if isinstance(part, (ast.FunctionDef, ast.ClassDef))}
                    defined |= {target.id for part in top if isinstance(part, ast.Assign) for target in part.targets}
                    self.assertLessEqual({alias.name for alias in node.names}, defined)
                    self.assertEqual({alias.asname for alias in node.names}, {None})
        while drawn:
            free = [name for name in drawn if not drawn[name] & set(drawn)]
            self.assertNotEqual(free, [], "these files draw from one another: %s" % sorted(drawn))
            for name in free:
                del drawn[name]

    def test_is_stands_beside_none_true_and_false_alone(self):
        for tree in TREES.values():
            for node in ast.walk(tree):
                if isinstance(node, ast.Compare) and isinstance(node.ops[0], (ast.Is, ast.IsNot)):
                    self.assertIn(ast.unparse(node.comparators[0]), ("None", "True", "False"))

    def test_what_is_walked_at_once_is_not_kept(self):
        for tree in TREES.values():
            walked = set()
            for node in ast.walk(tree):
                if isinstance(node, (ast.For, ast.comprehension)):
                    walked.add(node.iter)
                if isinstance(node, ast.Call) and node.args and isinstance(node.func, ast.Name):
                    if node.func.id in "list tuple dict sorted sum any all enumerate zip min max".split():
                        walked.add(node.args[0])
            for node in ast.walk(tree):
                if isinstance(node, ast.Call):
                    called = node.func.id if isinstance(node.func, ast.Name) else node.func.attr
                    if called in "zip enumerate reversed range items keys values".split():
                        self.assertIn(node, walked)

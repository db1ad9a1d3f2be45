"""The form of the package's files: what of the language's rules can be seen file by file."""

import ast
import pathlib
import re
import unittest

PACKAGE = pathlib.Path(__file__).resolve().parent.parent / "keptanswers"

NODES = (
    "Module Expr FunctionDef ClassDef arguments arg Assign AugAssign If While For Return Break Continue Pass Raise Try "
    "ExceptHandler Call Attribute Subscript Slice Name Load Store Constant List Tuple Dict ListComp comprehension "
    "BinOp Add Sub Mult FloorDiv Mod Pow BitAnd BitOr BitXor LShift RShift UnaryOp USub Not Invert BoolOp And Or "
    "Compare Eq NotEq Lt LtE Gt GtE Is IsNot In NotIn IfExp Lambda JoinedStr FormattedValue keyword"
).split()

PYTHON_NAMES = (
    "len range enumerate zip min max sum abs sorted reversed int str bool list tuple dict set frozenset isinstance ord "
    "repr any all divmod Exception ValueError TypeError KeyError IndexError LookupError ZeroDivisionError "
    "ArithmeticError OverflowError RuntimeError NotImplementedError StopIteration"
).split()

METHODS = (
    "append clear copy count endswith extend find get index insert isalnum isalpha isdigit islower isspace isupper "
    "items join keys ljust lower lstrip partition pop remove replace reverse rfind rjust rpartition rsplit rstrip "
    "setdefault split splitlines startswith strip update upper values zfill bit_length"
).split()

WORDS_NOWHERE = (
    "type typing typing_extensions enum Enum IntEnum StrEnum Flag IntFlag Generic Protocol ABC ABCMeta namedtuple "
    "NamedTuple TypedDict TYPE_CHECKING abstractmethod"
).split()

PARTS_NOWHERE = ("dataclass", "overload", "contextmanager")

SPECIAL = ("__init__", "__eq__", "__repr__", "__str__", "__len__")


def sources():
    return sorted(path for path in PACKAGE.rglob("*") if path.is_file() and "__pycache__" not in path.parts)


def trees():
    return [(path, ast.parse(path.read_text())) for path in sources()]


def bound_names(tree):
    """The names that a file binds: of defs, classes, parameters, locals, and values of objects."""
    names = []
    for node in ast.walk(tree):
        if isinstance(node, (ast.FunctionDef, ast.ClassDef)):
            names.append(node.name)
        elif isinstance(node, ast.arg):
            names.append(node.arg)
        elif isinstance(node, ast.Name) and isinstance(node.ctx, ast.Store):
            names.append(node.id)
        elif isinstance(node, ast.Attribute) and isinstance(node.ctx, ast.Store):
            names.append(node.attr)
    return names


class Form(unittest.TestCase):

    def test_files(self):
        names = [path.relative_to(PACKAGE).as_posix() for path in sources()]
        self.assertEqual(names, ["__init__.py", "desk.py"])

    def test_signs_and_sizes(self):
        for path in sources():
            text = path.read_text()
            self.assertEqual(re.findall(r"[^ -~\n]", text), [], path)
            lines = text.split("\n")
            self.assertTrue(len(lines) <= 400, path)
            self.assertEqual([line for line in lines if len(line) > 120], [])

    def test_functions_are_small(self):
        for path, tree in trees():
            for node in ast.walk(tree):
                if isinstance(node, ast.FunctionDef):
                    self.assertTrue(node.end_lineno - node.lineno < 40, node.name)

    def test_words_that_stand_nowhere(self):
        for path in sources():
            text = path.read_text()
            words = re.findall(r"[A-Za-z0-9_]+", text)
            self.assertEqual([word for word in words if word in WORDS_NOWHERE], [])
            self.assertEqual([part for part in PARTS_NOWHERE if part in text], [])

    def test_nothing_is_imported_and_no_other_kind_of_step_stands_there(self):
        for path, tree in trees():
            for node in ast.walk(tree):
                self.assertIn(node.__class__.__name__, NODES, (path, getattr(node, "lineno", 0)))

    def test_texts_stand_alone_at_a_file_s_top_only(self):
        for path, tree in trees():
            alone = [node for node in ast.walk(tree) if isinstance(node, ast.Expr)]
            for node in alone:
                if node is not tree.body[0]:
                    self.assertIsInstance(node.value, ast.Call, (path, node.lineno))

    def test_defs_have_plain_parameters(self):
        for path, tree in trees():
            for node in ast.walk(tree):
                if isinstance(node, ast.FunctionDef):
                    given = node.args
                    self.assertEqual((given.vararg, given.kwarg, given.kwonlyargs, given.posonlyargs), (None, None, [], []))
                    self.assertEqual((node.decorator_list, node.returns), ([], None))
                    self.assertEqual([each.annotation for each in given.args if each.annotation], [])
                elif isinstance(node, ast.ClassDef):
                    self.assertEqual([each for each in node.body if not isinstance(each, ast.FunctionDef)], [])
                elif isinstance(node, ast.Assign):
                    self.assertEqual(len(node.targets), 1)
                elif isinstance(node, (ast.For, ast.While)):
                    self.assertEqual(node.orelse, [])

    def test_numbers_are_whole(self):
        for path, tree in trees():
            for node in ast.walk(tree):
                if isinstance(node, ast.Constant):
                    self.assertIn(node.value.__class__, (int, str, bool, None.__class__))

    def test_names(self):
        python = dir(__builtins__) if not isinstance(__builtins__, dict) else list(__builtins__)
        for path, tree in trees():
            bound = bound_names(tree)
            for name in bound:
                self.assertTrue(name in SPECIAL or not name.startswith("_"), name)
                self.assertNotIn(name, python)
            for node in ast.walk(tree):
                if isinstance(node, ast.Name) and isinstance(node.ctx, ast.Load):
                    self.assertIn(node.id, bound + PYTHON_NAMES, (path, node.lineno))
                if isinstance(node, ast.Attribute) and isinstance(node.ctx, ast.Load):
                    self.assertIn(node.attr, bound + METHODS, (path, node.lineno))

    def test_own_methods_and_values(self):
        python = [name for kind in (str, int, list, dict, set, bytes) for name in dir(kind)]
        methods = []
        values = []
        for path, tree in trees():
            for node in ast.walk(tree):
                if isinstance(node, ast.ClassDef):
                    methods += [each.name for each in node.body if each.name not in SPECIAL]
                elif isinstance(node, ast.Attribute) and isinstance(node.ctx, ast.Store):
                    values.append(node.attr)
        self.assertEqual([name for name in methods + values if name in python], [])
        self.assertEqual([name for name in methods if name in values], [])

    def test_is_stands_beside_none_true_and_false_alone(self):
        for path, tree in trees():
            for node in ast.walk(tree):
                if isinstance(node, ast.Compare) and isinstance(node.ops[0], (ast.Is, ast.IsNot)):
                    beside = node.comparators[0]
                    self.assertIsInstance(beside, ast.Constant, (path, node.lineno))
                    self.assertIn(beside.value.__class__, (bool, None.__class__), (path, node.lineno))

    def test_a_file_s_top_has_plain_values_bound_once(self):
        for path, tree in trees():
            names = []
            for node in tree.body:
                if isinstance(node, ast.Assign):
                    ast.literal_eval(node.value)
                    names.append(node.targets[0].id)
                elif isinstance(node, (ast.FunctionDef, ast.ClassDef)):
                    names.append(node.name)
                else:
                    self.assertIs(node, tree.body[0])
            self.assertEqual(len(names), len(set(names)))

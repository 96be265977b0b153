"""The rules of ../shared/LANGUAGE.md as far as they are plainly seen in the files.

In a file alone: parts of L1, L2, L6, L7, L8, L10, L12, L14, L17, L20, L22, L24, L25; over all files: parts of L15,
L16, L18, L26.
"""

import ast
import builtins
import pathlib
import unittest

PACKAGE = pathlib.Path(__file__).resolve().parent.parent / "dutyrules"

NODES = """
    Module FunctionDef ClassDef ImportFrom alias arguments arg Lambda
    Assign AugAssign AnnAssign If While For Return Break Continue Pass Raise Try ExceptHandler Expr
    Constant List Tuple Dict Set ListComp comprehension Name Attribute Subscript Slice Call keyword
    BinOp UnaryOp BoolOp Compare IfExp JoinedStr FormattedValue Load Store
    Add Sub Mult FloorDiv Mod Pow BitAnd BitOr BitXor Invert LShift RShift
    And Or Not USub UAdd Eq NotEq Lt LtE Gt GtE Is IsNot In NotIn
""".split()

BUILTINS = """
    len range enumerate zip min max sum abs sorted reversed int str bool list tuple dict set frozenset isinstance ord
    repr any all divmod Exception ValueError TypeError KeyError IndexError LookupError ZeroDivisionError
    ArithmeticError OverflowError RuntimeError NotImplementedError AttributeError StopIteration object float bytes
""".split()

METHODS = """
    append clear copy count endswith extend find get index insert isalnum isalpha isdigit islower isspace isupper items
    join keys ljust lower lstrip partition pop remove replace reverse rfind rjust rpartition rsplit rstrip setdefault
    split splitlines startswith strip update upper values zfill bit_length
""".split()

NOT_VALUES = """
    items keys values pop update append clear extend insert remove reverse setdefault sort args encode format
""".split()

KEYWORDS = {"sorted": ["key", "reverse"], "min": ["key", "default"], "max": ["key", "default"], "sum": ["start"],
            "enumerate": ["start"], "zip": ["strict"]}

WORDS = """
    register mro elements open input version_info with_traceback add_note attrgetter breakpoint builtins compile
    delattr dir eval exec exit gc getattr globals hasattr help id importlib locals os quit setattr super type vars
    typing enum Enum Generic Protocol ABC namedtuple NamedTuple TypedDict abstractmethod sys print set frozenset chr
""".split()


def called_names(tree):
    """Each call with the plain name or the method's name that is called."""
    for node in ast.walk(tree):
        if isinstance(node, ast.Call):
            yield node, getattr(node.func, "id", ""), getattr(node.func, "attr", "")


def methods_of(tree):
    """The names of all methods of a file's classes."""
    classes = [node for node in ast.walk(tree) if isinstance(node, ast.ClassDef)]
    return [node.name for body in classes for node in body.body if isinstance(node, ast.FunctionDef)]


def values_of(tree):
    """The names of all values that are given to an object."""
    return [node.attr for node in ast.walk(tree)
            if isinstance(node, ast.Attribute) and isinstance(node.ctx, ast.Store)]


def locals_of(tree):
    """The names of all parameters and locals of a file's functions."""
    functions = [node for node in ast.walk(tree) if isinstance(node, ast.FunctionDef)]
    inner = [node for function in functions for node in ast.walk(function)]
    names = [node.id for node in inner if isinstance(node, ast.Name) and isinstance(node.ctx, ast.Store)]
    return names + [node.arg for node in inner if isinstance(node, ast.arg)]


def names_at_top(tree):
    """The names that a file defines at its top."""
    names = [node.name for node in tree.body if isinstance(node, (ast.FunctionDef, ast.ClassDef))]
    return names + [target.id for node in tree.body if isinstance(node, ast.Assign) for target in node.targets]


def drawn_from(tree):
    """The package's files that a file draws from, each with the names."""
    return [(node.module.rpartition(".")[2], [alias.name for alias in node.names])
            for node in tree.body if isinstance(node, ast.ImportFrom) and node.module != "__future__"]


def names_bound(tree):
    """Every name of a file that is bound in it, but for its imports."""
    for node in ast.walk(tree):
        if isinstance(node, (ast.FunctionDef, ast.ClassDef)):
            yield node.name
        elif isinstance(node, ast.arg):
            yield node.arg
        elif isinstance(node, ast.Attribute):
            yield node.attr
        elif isinstance(node, ast.Name) and isinstance(node.ctx, ast.Store):
            yield node.id


class FormTest(unittest.TestCase):
    def setUp(self):
        self.files = sorted(path for path in PACKAGE.iterdir() if path.name != "__pycache__")
        self.trees = {path: ast.parse(path.read_text(encoding="ascii")) for path in self.files}

    def test_files(self):
        self.assertIn(PACKAGE / "__init__.py", self.files)
        for path in self.files:
            self.assertRegex(path.name, r"^(__init__|__main__|[a-z][a-z0-9_]*)\.py$")

    def test_size_and_signs(self):
        for path, tree in self.trees.items():
            rows = path.read_bytes().decode("ascii").split("\n")
            self.assertLessEqual(len(rows), 399, path)
            for row in rows:
                self.assertLessEqual(len(row), 120, f"{path}: {row}")
                self.assertTrue(all(" " <= sign <= "~" for sign in row), f"{path}: {row}")
            for node in ast.walk(tree):
                if isinstance(node, ast.FunctionDef):
                    self.assertLessEqual(node.end_lineno - node.lineno + 1, 40, f"{path}: {node.name}")

    def test_statements_and_expressions(self):
        for path, tree in self.trees.items():
            for node in ast.walk(tree):
                where = f"{path}:{getattr(node, 'lineno', 0)}"
                self.assertIn(node.__class__.__name__, NODES, where)
                if isinstance(node, (ast.For, ast.While)):
                    self.assertEqual(node.orelse, [], where)
                if isinstance(node, ast.Try):
                    self.assertEqual(node.finalbody, [], where)
                if isinstance(node, ast.Assign):
                    self.assertEqual(len(node.targets), 1, where)
                if isinstance(node, ast.FunctionDef):
                    self.assertEqual((node.decorator_list, node.args.vararg, node.args.kwarg, node.args.kwonlyargs),
                                     ([], None, None, []), where)
                if isinstance(node, ast.Constant):
                    self.assertIsInstance(node.value, (int, str, type(None)), where)

    def test_imports(self):
        for path, tree in self.trees.items():
            for node in ast.walk(tree):
                if isinstance(node, ast.ImportFrom):
                    self.assertEqual(node.level, 0, path)
                    self.assertRegex(node.module, r"^(dutyrules\.[a-z0-9_]+|__future__)$", path)

    def test_names(self):
        for path, tree in self.trees.items():
            for name in names_bound(tree):
                self.assertRegex(name, r"^([A-Za-z][A-Za-z0-9_]*|__(init|eq|repr|str|len)__)$", path)
            for node in ast.walk(tree):
                if isinstance(node, ast.Name) and hasattr(builtins, node.id):
                    self.assertIn(node.id, BUILTINS, f"{path}:{node.lineno}")
                bound = node.arg if isinstance(node, ast.arg) else getattr(node, "id", "")
                if bound and not isinstance(getattr(node, "ctx", None), ast.Load):
                    self.assertFalse(hasattr(builtins, bound), f"{path}:{node.lineno}")

    def test_words_that_are_not_used(self):
        for path, tree in self.trees.items():
            for node in ast.walk(tree):
                for field in ("id", "attr", "arg", "name"):
                    self.assertNotIn(getattr(node, field, None), WORDS, f"{path}:{getattr(node, 'lineno', 0)}")

    def test_is_stands_beside_none_true_false(self):
        for path, tree in self.trees.items():
            for node in ast.walk(tree):
                if isinstance(node, ast.Compare) and isinstance(node.ops[0], (ast.Is, ast.IsNot)):
                    self.assertIsInstance(node.comparators[0], ast.Constant, f"{path}:{node.lineno}")

    def test_calls(self):
        own = [name for tree in self.trees.values() for name in methods_of(tree)]
        for path, tree in self.trees.items():
            for node, name, method in called_names(tree):
                where = f"{path}:{node.lineno}"
                if method:
                    self.assertIn(method, own + METHODS, where)
                for keyword in node.keywords:
                    self.assertIn(keyword.arg, KEYWORDS.get(name, []), where)

    def test_methods_are_called_where_they_stand(self):
        own = [name for tree in self.trees.values() for name in methods_of(tree)]
        for path, tree in self.trees.items():
            called = [id(node.func) for node, name, method in called_names(tree)]
            for node in ast.walk(tree):
                if isinstance(node, ast.Attribute) and node.attr in own + METHODS:
                    self.assertIn(id(node), called, f"{path}:{node.lineno}")

    def test_methods_and_values_are_not_called_alike(self):
        methods = [name for tree in self.trees.values() for name in methods_of(tree)]
        kinds = (str, int, list, dict, set, bytes, tuple)
        pythons = [name for kind in kinds for name in vars(kind) if not name.startswith("__")]
        for path, tree in self.trees.items():
            for name in values_of(tree):
                self.assertNotIn(name, methods + NOT_VALUES + pythons, path)
            for name in methods_of(tree):
                self.assertNotIn(name, pythons, path)

    def test_each_name_once_at_the_top(self):
        for path, tree in self.trees.items():
            imports = [name for module, names in drawn_from(tree) for name in names]
            names = names_at_top(tree) + imports
            self.assertEqual(len(names), len(set(names)), path)
            classes = [node.name for node in tree.body if isinstance(node, ast.ClassDef)]
            for name in locals_of(tree):
                self.assertNotIn(name, classes + imports, path)

    def test_names_are_drawn_from_the_file_that_defines_them(self):
        by_name = {path.stem: tree for path, tree in self.trees.items()}
        for path, tree in self.trees.items():
            for module, names in drawn_from(tree):
                for name in names:
                    self.assertIn(name, names_at_top(by_name[module]), path)

    def test_no_two_files_draw_from_one_another(self):
        left = {path.stem: [module for module, names in drawn_from(tree)] for path, tree in self.trees.items()}
        while left:
            free = [name for name, modules in left.items() if not any(module in left for module in modules)]
            self.assertNotEqual(free, [], left)
            left = {name: modules for name, modules in left.items() if name not in free}

    def test_the_interface_stands_in_its_own_file(self):
        for path, tree in self.trees.items():
            plain = [node for node in tree.body if isinstance(node, ast.FunctionDef) and node.name == "answers"]
            self.assertEqual(len(plain), 1 if path.name == "depot.py" else 0, path)
            for node in plain:
                self.assertEqual(([arg.arg for arg in node.args.args], node.args.defaults), (["calls"], []))

    def test_every_name_that_is_drawn_is_used(self):
        for path, tree in self.trees.items():
            used = [node.id for node in ast.walk(tree) if isinstance(node, ast.Name)]
            for module, names in drawn_from(tree):
                for name in names:
                    self.assertIn(name, used, path)


if __name__ == "__main__":
    unittest.main()

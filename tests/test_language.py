"""The part of Python that the package keeps to: what can be seen in its files of LANGUAGE.md's rules."""

import ast
import builtins
import os
import re
import unittest

import marklite

FOLDER = os.path.dirname(os.path.abspath(marklite.__file__))

STATEMENTS = (
    ast.Assign, ast.AugAssign, ast.If, ast.While, ast.For, ast.Return, ast.Break, ast.Continue, ast.Pass, ast.Raise,
    ast.Try, ast.Expr, ast.FunctionDef, ast.ClassDef, ast.ImportFrom,
)
EXPRESSIONS = (
    ast.Constant, ast.List, ast.Tuple, ast.Dict, ast.Name, ast.Attribute, ast.Subscript, ast.Slice, ast.Call,
    ast.BinOp, ast.UnaryOp, ast.BoolOp, ast.Compare, ast.IfExp, ast.ListComp, ast.Lambda, ast.JoinedStr,
    ast.FormattedValue,
)
BUILT_IN = (
    "len range enumerate zip min max sum abs sorted reversed int str bool list tuple dict set frozenset isinstance ord "
    "repr any all divmod Exception ValueError TypeError KeyError IndexError LookupError ZeroDivisionError "
    "ArithmeticError OverflowError RuntimeError NotImplementedError AttributeError StopIteration"
).split()
METHODS = (
    "append clear copy count endswith extend find get index insert isalnum isalpha isdigit islower isspace isupper "
    "items join keys ljust lower lstrip partition pop remove replace reverse rfind rjust rpartition rsplit rstrip "
    "setdefault split splitlines startswith strip update upper values zfill bit_length"
).split()
NOT_NAMES = (
    "register mro elements open input version_info with_traceback add_note attrgetter breakpoint builtins compile "
    "copyright credits delattr dir eval exec exit gc getattr globals hasattr help id importlib license locals "
    "methodcaller os quit setattr super type vars sys format format_map"
).split()
NOT_WORDS = re.compile(
    r"\b(type|typing|typing_extensions|enum|Enum|IntEnum|StrEnum|Flag|IntFlag|Generic|Protocol|ABC|ABCMeta|namedtuple"
    r"|NamedTuple|TypedDict|TYPE_CHECKING|abstractmethod)\b|dataclass|overload|contextmanager"
)
UNDERSCORED = ("__init__", "__eq__", "__repr__", "__str__", "__len__")
WALKS = ("zip", "enumerate", "reversed", "range", "items", "keys", "values")


def sources():
    found = {}
    for name in sorted(os.listdir(FOLDER)):
        if name != "__pycache__":
            with open(os.path.join(FOLDER, name), encoding="utf-8", newline="") as file:
                found[name] = file.read()
    return found


def nodes(kind):
    for name, source in sources().items():
        for node in ast.walk(ast.parse(source)):
            if isinstance(node, kind):
                yield name, node


def bound_names(tree):
    for node in ast.walk(tree):
        if isinstance(node, (ast.FunctionDef, ast.ClassDef)):
            yield node.name
        elif isinstance(node, ast.arg):
            yield node.arg
        elif isinstance(node, ast.Name) and isinstance(node.ctx, ast.Store):
            yield node.id
        elif isinstance(node, ast.ImportFrom):
            yield from (alias.name for alias in node.names)
        elif isinstance(node, ast.ExceptHandler) and node.name:
            yield node.name


class TestFiles(unittest.TestCase):
    def test_names_signs_and_sizes(self):
        for name, source in sources().items():
            self.assertRegex(name, r"^[a-z][a-z0-9_]*\.py$|^__init__\.py$")
            self.assertNotIn(name[:-3], dir(builtins))
            self.assertFalse(name.startswith("test"))
            lines = source.split("\n")
            self.assertLess(len(lines), 400, name)
            for line in lines:
                self.assertRegex(line, r"^[ -~]{0,120}$", name)
            self.assertIsNone(NOT_WORDS.search(source), name)

    def test_the_top_of_each_file(self):
        for name, source in sources().items():
            tree = ast.parse(source)
            self.assertIsNotNone(ast.get_docstring(tree), name)
            for node in tree.body[1:]:
                self.assertIsInstance(node, (ast.ImportFrom, ast.Assign, ast.FunctionDef, ast.ClassDef), name)
                if isinstance(node, ast.Assign):
                    ast.literal_eval(node.value)

    def test_names_at_the_top_are_bound_once(self):
        for name, source in sources().items():
            found = [node.targets[0].id for node in ast.parse(source).body if isinstance(node, ast.Assign)]
            found += [node.name for node in ast.parse(source).body if isinstance(node, (ast.FunctionDef, ast.ClassDef))]
            self.assertEqual(len(found), len(set(found)), name)

    def test_imports_are_the_packages_own_from_where_a_name_is_defined(self):
        for name, node in nodes(ast.ImportFrom):
            self.assertEqual(node.level, 0, name)
            package, file = node.module.split(".")
            self.assertEqual(package, "marklite")
            defined = set(bound_names(ast.Module(
                [part for part in ast.parse(sources()[file + ".py"]).body if not isinstance(part, ast.ImportFrom)], [])))
            for alias in node.names:
                self.assertIsNone(alias.asname)
                self.assertIn(alias.name, defined)

    def test_imports_go_round_nowhere(self):
        drawn = {}
        for name, node in nodes(ast.ImportFrom):
            drawn.setdefault(name, set()).add(node.module.split(".")[1] + ".py")
        left = set(sources())
        while left:
            free = {name for name in left if not drawn.get(name, set()) & left}
            self.assertTrue(free, left)
            left -= free


class TestForms(unittest.TestCase):
    def test_statements_and_expressions(self):
        for name, node in nodes((ast.stmt, ast.expr)):
            self.assertIsInstance(node, STATEMENTS + EXPRESSIONS, (name, node.lineno))

    def test_narrower_forms(self):
        for name, node in nodes((ast.stmt, ast.expr)):
            place = (name, node.lineno)
            if isinstance(node, ast.Assign):
                self.assertEqual(len(node.targets), 1, place)
            if isinstance(node, (ast.For, ast.While)):
                self.assertEqual(node.orelse, [], place)
            if isinstance(node, ast.ListComp):
                self.assertEqual(len(node.generators), 1, place)
                self.assertLess(len(node.generators[0].ifs), 2, place)
            if isinstance(node, ast.Constant):
                self.assertIsInstance(node.value, (int, str, type(None)), place)
            if isinstance(node, ast.FormattedValue):
                self.assertIsInstance(node.value, ast.Name, place)
            if isinstance(node, ast.BinOp):
                self.assertNotIsInstance(node.op, (ast.Div, ast.MatMult), place)
            if isinstance(node, ast.Constant) and isinstance(node.value, str):
                self.assertNotIn("%", node.value, place)
            if isinstance(node, ast.Compare) and any(isinstance(op, (ast.Is, ast.IsNot)) for op in node.ops):
                self.assertIn(ast.unparse(node.comparators[0]), ("None", "True", "False"), place)

    def test_functions(self):
        for name, node in nodes(ast.FunctionDef):
            self.assertLessEqual(node.end_lineno - node.lineno + 1, 40, (name, node.name))
            plain = node.args
            self.assertEqual((plain.vararg, plain.kwarg, plain.kwonlyargs, plain.posonlyargs), (None, None, [], []))
            self.assertEqual(node.decorator_list, [])

    def test_classes(self):
        for name, node in nodes(ast.ClassDef):
            self.assertEqual((node.decorator_list, node.keywords), ([], []))
            self.assertLess(len(node.bases), 2)
            for part in node.body[1:]:
                self.assertIsInstance(part, ast.FunctionDef, (name, node.name))

    def test_no_name_is_a_method_and_a_value(self):
        methods = {part.name for name, node in nodes(ast.ClassDef) for part in node.body[1:]}
        stored = {node.attr for name, node in nodes(ast.Attribute) if isinstance(node.ctx, ast.Store)}
        self.assertEqual(methods & stored, set())
        self.assertEqual((methods | stored) & set(METHODS), set())


class TestNames(unittest.TestCase):
    def test_bound_names(self):
        for name, source in sources().items():
            tree = ast.parse(source)
            taken = [node.name for node in tree.body if isinstance(node, ast.ClassDef)]
            taken += [alias.name for node in tree.body if isinstance(node, ast.ImportFrom) for alias in node.names]
            for bound in bound_names(tree):
                self.assertRegex(bound, r"^[A-Za-z][A-Za-z0-9_]*$|^__init__$", name)
                self.assertNotIn(bound, NOT_NAMES, name)
                self.assertNotIn(bound, dir(builtins), name)
            for node in ast.walk(tree):
                if isinstance(node, ast.arg):
                    self.assertNotIn(node.arg, taken, name)
                if isinstance(node, ast.Name) and isinstance(node.ctx, ast.Store):
                    self.assertNotIn(node.id, taken, name)

    def test_names_that_are_read(self):
        for name, source in sources().items():
            known = set(bound_names(ast.parse(source)))
            for node in ast.walk(ast.parse(source)):
                if isinstance(node, ast.Name) and isinstance(node.ctx, ast.Load):
                    self.assertTrue(node.id in known or node.id in BUILT_IN, (name, node.lineno, node.id))

    def test_methods_that_are_called(self):
        own = {part.name for name, node in nodes(ast.ClassDef) for part in node.body[1:]}
        for name, node in nodes(ast.Call):
            self.assertFalse(any(isinstance(given, ast.Starred) for given in node.args), (name, node.lineno))
            if isinstance(node.func, ast.Attribute):
                self.assertTrue(node.func.attr in own or node.func.attr in METHODS, (name, node.lineno))

    def test_attributes(self):
        own = {part.name for name, node in nodes(ast.ClassDef) for part in node.body[1:]}
        stored = {node.attr for name, node in nodes(ast.Attribute) if isinstance(node.ctx, ast.Store)}
        for name, node in nodes(ast.Attribute):
            self.assertNotIn(node.attr, NOT_NAMES, (name, node.lineno))
            self.assertIn(node.attr, own | stored | set(METHODS), (name, node.lineno))

    def test_what_is_walked_on_the_spot(self):
        for name, source in sources().items():
            walked = []
            for node in ast.walk(ast.parse(source)):
                if isinstance(node, (ast.For, ast.comprehension)):
                    walked.append(node.iter)
            walked = {(node.lineno, node.col_offset) for node in walked}
            for node in ast.walk(ast.parse(source)):
                if isinstance(node, ast.Call) and ast.unparse(node.func).split(".")[-1] in WALKS:
                    self.assertIn((node.lineno, node.col_offset), walked, name)

    def test_the_interface_stands_where_it_is_told(self):
        tree = ast.parse(sources()["notes.py"])
        found = [node for node in tree.body if isinstance(node, ast.FunctionDef) and node.name == "answers"]
        self.assertEqual([[given.arg for given in node.args.args] for node in found], [["calls"]])
        self.assertEqual(found[0].args.defaults, [])
        names = [node.name for name, node in nodes((ast.FunctionDef, ast.ClassDef))]
        self.assertEqual(names.count("answers"), 1)


if __name__ == "__main__":
    unittest.main()

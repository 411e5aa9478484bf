"""The package keeps to a small part of Python; this sees the rules that a walk through its syntax can see."""

import ast
import builtins
import os
import re
import unittest

import truthcircuitsdesk

FOLDER = os.path.dirname(truthcircuitsdesk.__file__)
PACKAGE = "truthcircuitsdesk"

OWN_NAMES = set("""
len range enumerate zip min max sum abs sorted reversed int str bool list tuple dict set frozenset isinstance ord repr
any all divmod Exception ValueError TypeError KeyError IndexError LookupError ZeroDivisionError ArithmeticError
OverflowError RuntimeError NotImplementedError StopIteration
""".split())

METHODS = set("""
append clear copy count endswith extend find get index insert isalnum isalpha isdigit islower isspace isupper items join
keys ljust lower lstrip partition pop remove replace reverse rfind rjust rpartition rsplit rstrip setdefault split
splitlines startswith strip update upper values zfill bit_length
""".split())

SYNTAX = set("""
Module FunctionDef ClassDef arguments arg Assign AugAssign If While For Return Break Continue Pass Raise Try
ExceptHandler Expr Call Name Attribute Subscript Slice Constant List Tuple Dict BinOp UnaryOp BoolOp Compare IfExp
ListComp comprehension Lambda Load Store ImportFrom alias And Or Not USub Invert Add Sub Mult FloorDiv Mod Pow LShift
RShift BitOr BitXor BitAnd Eq NotEq Lt LtE Gt GtE In NotIn Is IsNot keyword JoinedStr FormattedValue
""".split())

WORDS_NOT_USED = set("""
type typing typing_extensions enum Enum IntEnum StrEnum Flag IntFlag Generic Protocol ABC ABCMeta namedtuple NamedTuple
TypedDict TYPE_CHECKING abstractmethod register mro elements open input version_info with_traceback add_note
""".split())


def sources():
    found = {}
    for name in sorted(os.listdir(FOLDER)):
        if name.endswith(".py"):
            with open(os.path.join(FOLDER, name), encoding="ascii", newline="") as file:
                found[name] = file.read()
    return found


def trees():
    return {name: ast.parse(source) for name, source in sources().items()}


def bound_at_top(tree):
    names = []
    for row in tree.body:
        if isinstance(row, (ast.FunctionDef, ast.ClassDef)):
            names.append(row.name)
        elif isinstance(row, ast.Assign):
            names.extend(target.id for target in row.targets)
    return names


def names_given(tree):
    given = []
    for node in ast.walk(tree):
        if isinstance(node, (ast.FunctionDef, ast.ClassDef)):
            given.append(node.name)
        elif isinstance(node, ast.arg):
            given.append(node.arg)
        elif isinstance(node, ast.Name) and isinstance(node.ctx, ast.Store):
            given.append(node.id)
        elif isinstance(node, ast.Attribute) and isinstance(node.ctx, ast.Store):
            given.append(node.attr)
        elif isinstance(node, ast.ExceptHandler) and node.name:
            given.append(node.name)
    return given


class Files(unittest.TestCase):
    def test_nothing_else_lies_in_the_folder(self):
        names = [name for name in os.listdir(FOLDER) if name != "__pycache__"]
        self.assertIn("__init__.py", names)
        for name in names:
            self.assertRegex(name, r"^([a-z][a-z0-9_]*|__init__)\.py$")

    def test_signs_and_sizes(self):
        for name, source in sources().items():
            rows = source.split("\n")
            self.assertLessEqual(len(rows), 400, name)
            self.assertTrue(re.fullmatch(r"[ -~\n]*", source), name)
            for row in rows:
                self.assertLessEqual(len(row), 120, name)
            found = set(re.findall(r"[A-Za-z_][A-Za-z_0-9]*", source))
            self.assertEqual(found & WORDS_NOT_USED, set(), name)

    def test_functions_have_at_most_40_lines(self):
        for name, tree in trees().items():
            for node in ast.walk(tree):
                if isinstance(node, ast.FunctionDef):
                    self.assertLessEqual(node.end_lineno - node.lineno + 1, 40, (name, node.name))


class Imports(unittest.TestCase):
    def drawn(self, tree):
        return [node for node in ast.walk(tree) if isinstance(node, ast.ImportFrom)]

    def test_only_the_package_itself_from_where_a_name_is_defined(self):
        all_trees = trees()
        for name, tree in all_trees.items():
            for node in self.drawn(tree):
                self.assertIn(node, tree.body, name)
                self.assertEqual(node.level, 0, name)
                first, second = node.module.split(".")
                self.assertEqual(first, PACKAGE, name)
                defined = bound_at_top(all_trees[second + ".py"])
                for alias in node.names:
                    self.assertIn(alias.name, defined, name)
                    self.assertIsNone(alias.asname, name)

    def test_no_two_files_draw_from_one_another(self):
        left = {}
        for name, tree in trees().items():
            left[name] = {node.module.split(".")[1] + ".py" for node in self.drawn(tree)}
        while left:
            free = [name for name, drawn in left.items() if not drawn & set(left)]
            self.assertNotEqual(free, [], sorted(left))
            for name in free:
                left.pop(name)

    def test_every_import_is_used(self):
        for name, tree in trees().items():
            used = {node.id for node in ast.walk(tree) if isinstance(node, ast.Name)}
            for node in self.drawn(tree):
                for alias in node.names:
                    self.assertIn(alias.name, used, name)


class Syntax(unittest.TestCase):
    def test_only_what_is_allowed(self):
        for name, tree in trees().items():
            for node in ast.walk(tree):
                self.assertIn(node.__class__.__name__, SYNTAX, (name, getattr(node, "lineno", 0)))

    def test_targets_constants_and_loops(self):
        for name, tree in trees().items():
            for node in ast.walk(tree):
                if isinstance(node, ast.Assign):
                    self.assertEqual(len(node.targets), 1, name)
                    self.assertNotIsInstance(node.targets[0], (ast.Tuple, ast.List), name)
                if isinstance(node, ast.Constant):
                    self.assertIsInstance(node.value, (int, str, bool, type(None)), name)
                if isinstance(node, (ast.For, ast.While)):
                    self.assertEqual(node.orelse, [], name)
                if isinstance(node, ast.FunctionDef):
                    self.assertEqual(node.decorator_list, [], name)
                    self.assertIsNone(node.args.vararg or node.args.kwarg, name)

    def test_names_are_plain_and_not_of_python(self):
        taken = set(dir(builtins))
        for name, tree in trees().items():
            for given in names_given(tree):
                if given != "__init__":
                    self.assertRegex(given, r"^[A-Za-z][A-Za-z0-9_]*$", name)
                    self.assertNotIn(given, taken, name)
            self.assertEqual(len(set(bound_at_top(tree))), len(bound_at_top(tree)), name)

    def test_names_of_python_that_are_used(self):
        for name, tree in trees().items():
            for node in ast.walk(tree):
                if isinstance(node, ast.Name) and node.id in dir(builtins):
                    self.assertIn(node.id, OWN_NAMES, (name, node.lineno))

    def test_methods_and_values_are_not_called_alike(self):
        methods = set()
        stored = set()
        called = set()
        for tree in trees().values():
            for node in ast.walk(tree):
                if isinstance(node, ast.ClassDef):
                    methods |= {row.name for row in node.body if isinstance(row, ast.FunctionDef)}
                if isinstance(node, ast.Attribute) and isinstance(node.ctx, ast.Store):
                    stored.add(node.attr)
                if isinstance(node, ast.Call) and isinstance(node.func, ast.Attribute):
                    called.add(node.func.attr)
        self.assertEqual(methods & stored, set())
        self.assertEqual(called - methods - METHODS, set())
        python_has = set(dir(str)) | set(dir(int)) | set(dir(list)) | set(dir(dict)) | set(dir(set)) | set(dir(bytes))
        self.assertEqual((methods | stored) & python_has - {"__init__"}, set())

    def test_top_of_a_module_holds_plain_values(self):
        for name, tree in trees().items():
            for row in tree.body:
                if isinstance(row, ast.Assign):
                    for node in ast.walk(row.value):
                        self.assertNotIsInstance(node, (ast.Call, ast.ListComp, ast.BinOp), (name, row.lineno))


if __name__ == "__main__":
    unittest.main()

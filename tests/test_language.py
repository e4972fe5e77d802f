"""The package's own files, held against the rules of the language part that can be read off their form."""

import ast
import builtins
import pathlib
import re
import unittest

PACKAGE = pathlib.Path(__file__).resolve().parent.parent / "reignyears"
FILES = sorted(path for path in PACKAGE.rglob("*") if "__pycache__" not in path.parts)

NODES = {
    "Module", "FunctionDef", "arguments", "arg", "ClassDef", "ImportFrom", "alias", "Expr", "Assign", "AugAssign",
    "If", "While", "For", "Return", "Break", "Continue", "Pass", "Raise", "Try", "ExceptHandler", "Constant", "List",
    "Tuple", "Dict", "BinOp", "Add", "Sub", "Mult", "FloorDiv", "Mod", "Pow", "BitAnd", "BitOr", "BitXor", "LShift",
    "RShift", "UnaryOp", "USub", "Not", "Invert", "Compare", "Eq", "NotEq", "Lt", "LtE", "Gt", "GtE", "In", "NotIn",
    "Is", "IsNot", "BoolOp", "And", "Or", "IfExp", "Call", "keyword", "Attribute", "Subscript", "Slice", "ListComp",
    "comprehension", "JoinedStr", "FormattedValue", "Lambda", "Name", "Load", "Store",
}
PYTHONS_OWN = set("""len range enumerate zip min max sum abs sorted reversed int str bool list tuple dict set isinstance
ord repr any all divmod Exception ValueError TypeError KeyError IndexError LookupError ZeroDivisionError ArithmeticError
OverflowError RuntimeError NotImplementedError StopIteration""".split())
METHODS = set("""append clear copy count endswith extend find get index insert isalnum isalpha isdigit islower isspace
isupper items join keys ljust lower lstrip partition pop remove replace reverse rfind rjust rpartition rsplit rstrip
setdefault split splitlines startswith strip update upper values zfill bit_length""".split())
NEVER_USED = set("""register mro elements open input version_info with_traceback add_note format format_map super sys os
getattr setattr delattr hasattr eval exec compile globals locals vars dir id help exit quit""".split())
WORDS = re.compile(r"\b(type|typing|typing_extensions|enum|Enum|IntEnum|StrEnum|Flag|IntFlag|Generic|Protocol|ABC|ABCMeta|"
                   r"namedtuple|NamedTuple|TypedDict|TYPE_CHECKING|abstractmethod)\b|dataclass|overload|contextmanager")
OF_PYTHONS_VALUES = {name for kind in (str, int, list, tuple, dict, set, bytes) for name in dir(kind)}


def trees():
    return [(path, ast.parse(path.read_text(encoding="ascii"))) for path in FILES]


def walked(kind):
    return [(path, node) for path, tree in trees() for node in ast.walk(tree) if isinstance(node, kind)]


class Language(unittest.TestCase):
    def test_files(self):
        self.assertIn(PACKAGE / "__init__.py", FILES)
        for path in FILES:
            self.assertRegex(path.name, r"^([a-z][a-z0-9_]*|__init__)\.py$")
            self.assertNotIn(path.stem, dir(builtins))

    def test_signs_and_sizes(self):
        for path in FILES:
            text = path.read_bytes().decode("ascii")
            lines = text.split("\n")
            self.assertRegex(text, r"\A[ -~\n]*\Z", path)
            self.assertIsNone(WORDS.search(text), path)
            self.assertLessEqual(len(lines), 400, path)
            self.assertLessEqual(max(len(line) for line in lines), 120, path)
        for path, node in walked(ast.FunctionDef):
            self.assertLessEqual(node.end_lineno - node.lineno + 1, 40, (path, node.name))

    def test_only_what_is_allowed_stands_there(self):
        for path, node in walked(ast.AST):
            self.assertIn(type(node).__name__, NODES, (path, getattr(node, "lineno", 0)))
            if isinstance(node, ast.Assign):
                self.assertEqual(len(node.targets), 1, (path, node.lineno))
                self.assertNotIsInstance(node.targets[0], (ast.Tuple, ast.List), (path, node.lineno))
            if isinstance(node, (ast.For, ast.While)):
                self.assertEqual(node.orelse, [], (path, node.lineno))
            if isinstance(node, ast.ListComp):
                self.assertEqual(len(node.generators), 1, (path, node.lineno))
                self.assertLessEqual(len(node.generators[0].ifs), 1, (path, node.lineno))
            if isinstance(node, ast.Constant):
                self.assertIn(type(node.value), (int, str, bool, type(None)), (path, node.lineno))
            if isinstance(node, ast.Compare) and isinstance(node.ops[0], (ast.Is, ast.IsNot)):
                self.assertIsInstance(node.comparators[0], ast.Constant, (path, node.lineno))

    def test_imports_are_of_the_package_and_run_one_way(self):
        drawn = {path.stem: [] for path in FILES}
        for path, node in walked(ast.ImportFrom):
            self.assertEqual(node.level, 0, path)
            package, stem = node.module.split(".")
            self.assertEqual(package, "reignyears", path)
            defined = [name for other, tree in trees() if other.stem == stem for name in self.bound(tree)]
            for alias in node.names:
                self.assertIn(alias.name, defined, path)
            drawn[path.stem].append(stem)
        while drawn:
            ends = [stem for stem in drawn if not set(drawn[stem]) & set(drawn)]
            self.assertNotEqual(ends, [], drawn)
            for stem in ends:
                drawn.pop(stem)

    def bound(self, tree):
        """The names that a file binds itself at its top."""
        names = [node.name for node in tree.body if isinstance(node, (ast.FunctionDef, ast.ClassDef))]
        return names + [node.targets[0].id for node in tree.body if isinstance(node, ast.Assign)]

    def test_the_top_of_each_file(self):
        for path, tree in trees():
            self.assertIsNotNone(ast.get_docstring(tree), path)
            for node in tree.body[1:]:
                self.assertIsInstance(node, (ast.ImportFrom, ast.FunctionDef, ast.ClassDef, ast.Assign), path)
            names = self.bound(tree)
            self.assertEqual(len(names), len(set(names)), path)

    def test_names(self):
        for path, tree in trees():
            top = self.bound(tree) + [alias.name for node in tree.body if isinstance(node, ast.ImportFrom)
                                      for alias in node.names]
            for node in ast.walk(tree):
                if isinstance(node, ast.arg) or isinstance(node, ast.Name) and isinstance(node.ctx, ast.Store):
                    name = node.arg if isinstance(node, ast.arg) else node.id
                    self.assertRegex(name, r"^[A-Za-z][A-Za-z0-9_]*$", path)
                    self.assertNotIn(name, dir(builtins), path)
                    self.assertNotIn(name, NEVER_USED, path)
                    if node.col_offset > 0:
                        self.assertNotIn(name, top, path)
                if isinstance(node, ast.Name) and node.id in dir(builtins):
                    self.assertIn(node.id, PYTHONS_OWN, (path, node.lineno))

    def test_functions_are_plain(self):
        for path, node in walked(ast.FunctionDef):
            given = node.args
            self.assertEqual((node.decorator_list, given.vararg, given.kwarg, given.kwonlyargs, given.posonlyargs),
                             ([], None, None, [], []), (path, node.name))
            self.assertTrue(not node.name.startswith("_") or node.name == "__init__", (path, node.name))

    def test_methods_and_values_of_objects(self):
        methods = {part.name for path, node in walked(ast.ClassDef) for part in node.body
                   if isinstance(part, ast.FunctionDef)}
        called = {node.func.attr for path, node in walked(ast.Call) if isinstance(node.func, ast.Attribute)}
        stored = {node.attr for path, node in walked(ast.Attribute) if isinstance(node.ctx, ast.Store)}
        self.assertEqual(called - methods - METHODS, set())
        self.assertEqual(methods & stored, set())
        self.assertEqual((methods | stored) & OF_PYTHONS_VALUES - {"__init__"}, set())
        self.assertEqual((methods | stored | called) & NEVER_USED, set())


if __name__ == "__main__":
    unittest.main()

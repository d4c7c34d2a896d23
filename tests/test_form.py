"""The form of the package's files: the rules of the language that can be seen in a file."""

import ast
import builtins
import pathlib
import re
import unittest

PACKAGE = pathlib.Path(__file__).resolve().parent.parent / "tilewords"

NAMES = """len range enumerate zip min max sum abs sorted reversed int str bool list tuple dict set frozenset isinstance
ord repr any all divmod Exception ValueError TypeError KeyError IndexError LookupError ZeroDivisionError
ArithmeticError OverflowError RuntimeError NotImplementedError AttributeError StopIteration""".split()
METHODS = """append clear copy count endswith extend find get index insert isalnum isalpha isdigit islower isspace
isupper items join keys ljust lower lstrip partition pop remove replace reverse rfind rjust rpartition rsplit rstrip
setdefault split splitlines startswith strip update upper values zfill bit_length""".split()
BARRED_WORDS = """type typing typing_extensions enum Enum IntEnum StrEnum Flag IntFlag Generic Protocol ABC ABCMeta
namedtuple NamedTuple TypedDict TYPE_CHECKING abstractmethod""".split()
BARRED_PARTS = ("dataclass", "overload", "contextmanager")
OWN_VALUES = (str, int, list, dict, set, bytes)
NODES = (
    ast.Module, ast.Expr, ast.Constant, ast.ImportFrom, ast.alias, ast.FunctionDef, ast.arguments, ast.arg,
    ast.ClassDef, ast.Assign, ast.AugAssign, ast.If, ast.While, ast.For, ast.Return, ast.Break, ast.Continue,
    ast.Pass, ast.Name, ast.Load, ast.Store, ast.Attribute, ast.Subscript, ast.Slice, ast.Call, ast.List, ast.Tuple,
    ast.Dict, ast.BinOp, ast.UnaryOp, ast.BoolOp, ast.Compare, ast.IfExp, ast.ListComp, ast.comprehension,
    ast.Add, ast.Sub, ast.Mult, ast.FloorDiv, ast.Mod, ast.USub, ast.Not, ast.And, ast.Or,
    ast.Eq, ast.NotEq, ast.Lt, ast.LtE, ast.Gt, ast.GtE, ast.In, ast.NotIn,
)


def package_files():
    return sorted(path for path in PACKAGE.rglob("*") if "__pycache__" not in path.parts)


def trees():
    return [(path, ast.parse(path.read_text(encoding="utf-8"))) for path in package_files() if path.suffix == ".py"]


def nodes(*kinds):
    return [(path.name, node) for path, tree in trees() for node in ast.walk(tree) if isinstance(node, kinds)]


class Files(unittest.TestCase):
    def test_plain_files_alone(self):
        for path in package_files():
            self.assertRegex(path.name, r"\A[a-z0-9_]+\.py\Z")
            self.assertNotIn(path.stem, dir(builtins))
        self.assertTrue((PACKAGE / "__init__.py").is_file())

    def test_signs_and_sizes(self):
        for path in package_files():
            text = path.read_bytes().decode("ascii")
            self.assertFalse([sign for sign in text if sign != "\n" and not " " <= sign <= "~"])
            lines = text.split("\n")
            self.assertLessEqual(len(lines), 400)
            self.assertLessEqual(max(len(line) for line in lines), 120)
        for name, node in nodes(ast.FunctionDef):
            self.assertLessEqual(node.end_lineno - node.lineno + 1, 40, (name, node.name))

    def test_words_that_stand_nowhere(self):
        for path in package_files():
            text = path.read_text()
            self.assertFalse(set(re.findall(r"\w+", text)) & set(BARRED_WORDS))
            self.assertFalse([part for part in BARRED_PARTS if part in text])


class Language(unittest.TestCase):
    def test_kinds_of_statements_and_expressions(self):
        for name, node in nodes(ast.AST):
            self.assertIsInstance(node, NODES, (name, getattr(node, "lineno", 0)))

    def test_values(self):
        for name, node in nodes(ast.Constant):
            self.assertIn(type(node.value), (int, str, bool, type(None)))
            if isinstance(node.value, str):
                self.assertNotIn("%", node.value)

    def test_imports_are_the_package_s_own_and_go_one_way(self):
        drawn = {}
        for path, tree in trees():
            own = [node for node in tree.body if isinstance(node, ast.ImportFrom)]
            self.assertEqual(len(own), len([n for n in ast.walk(tree) if isinstance(n, ast.ImportFrom)]))
            for node in own:
                self.assertEqual(node.level, 0)
                self.assertTrue(node.module.startswith("tilewords."))
                self.assertFalse([alias for alias in node.names if alias.name == "*" or alias.asname])
            drawn[path.stem] = [node.module.split(".")[1] for node in own]
        while drawn:
            free = [stem for stem in drawn if not set(drawn[stem]) & set(drawn)]
            self.assertTrue(free, "files draw from one another")
            for stem in free:
                drawn.pop(stem)

    def test_imported_names_come_from_the_file_that_defines_them(self):
        defined = {path.stem: top_names(tree) for path, tree in trees()}
        for name, node in nodes(ast.ImportFrom):
            for alias in node.names:
                self.assertIn(alias.name, defined[node.module.split(".")[1]])

    def test_each_name_is_bound_once_at_the_top(self):
        for path, tree in trees():
            names = top_names(tree)
            self.assertEqual(len(names), len(set(names)), path.name)

    def test_functions_and_classes_are_plain(self):
        for name, node in nodes(ast.FunctionDef):
            given = node.args
            self.assertFalse(given.vararg or given.kwarg or given.kwonlyargs or given.posonlyargs)
            self.assertFalse(node.decorator_list or node.returns or [arg for arg in given.args if arg.annotation])
        for name, node in nodes(ast.ClassDef):
            self.assertFalse(node.decorator_list or node.keywords)
            self.assertLessEqual(len(node.bases), 1)

    def test_one_target_and_no_else_behind_a_loop(self):
        for name, node in nodes(ast.Assign):
            self.assertEqual(len(node.targets), 1)
            self.assertNotIsInstance(node.targets[0], (ast.Tuple, ast.List))
        for name, node in nodes(ast.For, ast.While):
            self.assertFalse(node.orelse)
        for name, node in nodes(ast.ListComp):
            self.assertEqual(len(node.generators), 1)
            self.assertLessEqual(len(node.generators[0].ifs), 1)

    def test_names(self):
        for path, tree in trees():
            imported = [alias.name for node in tree.body if isinstance(node, ast.ImportFrom) for alias in node.names]
            classes = [node.name for node in tree.body if isinstance(node, ast.ClassDef)]
            for bound in bound_names(tree):
                self.assertRegex(bound, r"\A[A-Za-z][A-Za-z0-9_]*\Z")
                self.assertNotIn(bound, dir(builtins))
            for local in local_names(tree):
                self.assertNotIn(local, imported + classes)
            known = bound_names(tree) + imported + classes + top_names(tree)
            for node in ast.walk(tree):
                if isinstance(node, ast.Name) and node.id not in known:
                    self.assertIn(node.id, NAMES)

    def test_methods_and_values_of_objects(self):
        own = {node.attr for name, node in nodes(ast.Attribute) if isinstance(node.ctx, ast.Store)}
        methods = {item.name for name, node in nodes(ast.ClassDef) for item in node.body
                   if isinstance(item, ast.FunctionDef)} - {"__init__"}
        self.assertFalse(own & methods)
        for name in own | methods:
            self.assertFalse([kind for kind in OWN_VALUES if hasattr(kind, name)], name)
        for name, node in nodes(ast.Attribute):
            self.assertIn(node.attr, list(own | methods) + METHODS)

    def test_what_a_file_holds_at_its_top_is_not_changed(self):
        for path, tree in trees():
            top = top_names(tree)
            for node in ast.walk(tree):
                if isinstance(node, (ast.Subscript, ast.Attribute)) and isinstance(node.ctx, ast.Store):
                    self.assertFalse(isinstance(node.value, ast.Name) and node.value.id in top)
                if isinstance(node, ast.Call) and isinstance(node.func, ast.Attribute):
                    self.assertFalse(isinstance(node.func.value, ast.Name) and node.func.value.id in top)

    def test_ranges_and_zips_are_walked_on_the_spot(self):
        walked = [node.iter for name, node in nodes(ast.For, ast.comprehension)]
        lines = [ast.dump(node) for node in walked]
        for name, node in nodes(ast.Call):
            if isinstance(node.func, ast.Name) and node.func.id in ("range", "zip", "enumerate", "reversed"):
                self.assertIn(ast.dump(node), lines)


def top_names(tree):
    found = []
    for node in tree.body:
        if isinstance(node, (ast.FunctionDef, ast.ClassDef)):
            found.append(node.name)
        elif isinstance(node, ast.Assign):
            found.append(node.targets[0].id)
    return found


def bound_names(tree):
    found = [node.id for node in ast.walk(tree) if isinstance(node, ast.Name) and isinstance(node.ctx, ast.Store)]
    return found + [node.arg for node in ast.walk(tree) if isinstance(node, ast.arg)]


def local_names(tree):
    top = [node.targets[0].id for node in tree.body if isinstance(node, ast.Assign)]
    return [name for name in bound_names(tree) if name not in top]


if __name__ == "__main__":
    unittest.main()

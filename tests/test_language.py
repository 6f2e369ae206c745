"""The rules of LANGUAGE.md that can be seen in the text of a file or in its tree."""

import ast
import builtins
import pathlib
import re
import unittest

PACKAGE = pathlib.Path(__file__).resolve().parent.parent / "gromatic"
FILES = sorted(path for path in PACKAGE.iterdir() if path.suffix == ".py")
BUILTINS = set("""len range enumerate zip min max sum abs sorted reversed int str bool bytes list tuple dict set
    frozenset isinstance ord repr any all divmod Exception ValueError TypeError KeyError IndexError LookupError
    ZeroDivisionError ArithmeticError OverflowError RuntimeError NotImplementedError AttributeError super property
    staticmethod classmethod iter next""".split())
METHODS = {"__init__", "__eq__", "__repr__", "__str__", "__len__"}
BARRED_WORDS = re.compile(r"\b(type|typing|typing_extensions|enum|Enum|IntEnum|StrEnum|Flag|IntFlag|Generic|Protocol|ABC"
                          r"|ABCMeta|namedtuple|NamedTuple|TypedDict|TYPE_CHECKING|abstractmethod)\b"
                          r"|dataclass|overload|contextmanager")
BARRED_NAMES = set("""register mro elements open input law version_info with_traceback add_note format format_map
    chr print eval exec getattr setattr hasattr globals locals vars type id dir compile exit help""".split())
BARRED_NODES = (ast.Global, ast.AsyncFunctionDef, ast.Div, ast.Import)


def trees():
    return {path: ast.parse(path.read_text(encoding="utf-8")) for path in FILES}


def bound_names(tree):
    """All names that a file binds, at any level, and its attributes' names."""
    for node in ast.walk(tree):
        if isinstance(node, ast.Name) and not isinstance(node.ctx, ast.Load):
            yield node.id
        elif isinstance(node, ast.arg):
            yield node.arg
        elif isinstance(node, (ast.FunctionDef, ast.ClassDef)):
            yield node.name


class Texts(unittest.TestCase):
    def test_the_folder_holds_only_plain_files(self):
        for path in PACKAGE.iterdir():
            if path.name != "__pycache__":
                self.assertRegex(path.name, r"^[a-z_][a-z0-9_]*\.py$")

    def test_signs_and_sizes(self):
        for path in FILES:
            text = path.read_text(encoding="utf-8")
            self.assertRegex(text, r"\A[\n -~]*\Z", path.name)
            lines = text.split("\n")
            self.assertLess(len(lines), 400, path.name)
            self.assertLessEqual(max(len(line) for line in lines), 120, path.name)

    def test_barred_words(self):
        for path in FILES:
            self.assertIsNone(BARRED_WORDS.search(path.read_text(encoding="utf-8")), path.name)

    def test_functions_are_short(self):
        for path, tree in trees().items():
            for node in ast.walk(tree):
                if isinstance(node, ast.FunctionDef):
                    self.assertLessEqual(node.end_lineno - node.lineno + 1, 40, (path.name, node.name))


class Trees(unittest.TestCase):
    def test_barred_statements_and_values(self):
        for path, tree in trees().items():
            for node in ast.walk(tree):
                self.assertNotIsInstance(node, BARRED_NODES, (path.name, getattr(node, "lineno", 0)))
                if isinstance(node, ast.Constant):
                    self.assertNotIsInstance(node.value, (float, complex), path.name)
                    self.assertNotIn("%", str(node.value), path.name)
                if isinstance(node, ast.Attribute):
                    self.assertNotIn(node.attr, BARRED_NAMES | {"sort"}, path.name)

    def test_lists_not_generators_where_objects_may_be_compared(self):
        for path, tree in trees().items():
            for node in ast.walk(tree):
                if isinstance(node, ast.Call) and ast.unparse(node.func) in ("any", "all", "min", "max", "sum", "sorted"):
                    self.assertNotIsInstance(node.args[0], ast.GeneratorExp, (path.name, node.lineno))

    def test_is_stands_only_with_none_true_false(self):
        for path, tree in trees().items():
            for node in ast.walk(tree):
                if isinstance(node, ast.Compare) and any(isinstance(sign, (ast.Is, ast.IsNot)) for sign in node.ops):
                    self.assertIn(ast.unparse(node.comparators[0]), ("None", "True", "False"), path.name)

    def test_plain_names(self):
        for path, tree in trees().items():
            for name in bound_names(tree):
                self.assertTrue(name in METHODS or re.fullmatch(r"[A-Za-z][A-Za-z0-9_]*", name), (path.name, name))
                self.assertNotIn(name, BARRED_NAMES, path.name)

    def test_no_name_of_a_builtin_is_bound(self):
        for path, tree in trees().items():
            for name in bound_names(tree):
                self.assertFalse(name not in METHODS and hasattr(builtins, name), (path.name, name))

    def test_only_listed_builtins_are_read(self):
        for path, tree in trees().items():
            for node in ast.walk(tree):
                if isinstance(node, ast.Name) and hasattr(builtins, node.id):
                    self.assertIn(node.id, BUILTINS, path.name)

    def test_module_level(self):
        for path, tree in trees().items():
            names = []
            for node in tree.body:
                self.assertIsInstance(node, (ast.Expr, ast.ImportFrom, ast.FunctionDef, ast.ClassDef, ast.Assign))
                if isinstance(node, ast.ImportFrom):
                    names.extend(alias.asname or alias.name for alias in node.names)
                elif isinstance(node, ast.Assign):
                    names.append(node.targets[0].id)
                elif not isinstance(node, ast.Expr):
                    names.append(node.name)
            self.assertEqual(len(names), len(set(names)), path.name)

    def test_no_inner_name_is_that_of_an_import_or_a_class(self):
        for path, tree in trees().items():
            taken = {alias.name for node in tree.body if isinstance(node, ast.ImportFrom) for alias in node.names}
            taken |= {node.name for node in tree.body if isinstance(node, ast.ClassDef)}
            for node in tree.body:
                inner = list(bound_names(ast.Module(getattr(node, "body", []), [])))
                inner += [each.arg for each in ast.walk(node) if isinstance(each, ast.arg)]
                for name in inner:
                    self.assertNotIn(name, taken, path.name)


    def test_asking_methods_assign_nothing_and_end_in_a_return(self):
        for path, tree in trees().items():
            for node in ast.walk(tree):
                if isinstance(node, ast.FunctionDef) and node.name in ("__eq__", "__repr__", "__str__", "__len__"):
                    self.assertIsInstance(node.body[-1], ast.Return, (path.name, node.lineno))
                    for inner in ast.walk(node):
                        self.assertNotIsInstance(inner, (ast.Assign, ast.AugAssign, ast.Delete), (path.name, node.lineno))
                    told = node.body[-1].value
                    if node.name == "__len__":
                        self.assertEqual(told.func.id, "len", path.name)
                    elif node.name != "__eq__":
                        self.assertIsInstance(told, ast.JoinedStr, path.name)

    def test_only_own_errors_are_caught(self):
        own = {node.name for node in ast.walk(ast.parse((PACKAGE / "errors.py").read_text()))
               if isinstance(node, ast.ClassDef)}
        for path, tree in trees().items():
            for node in ast.walk(tree):
                if isinstance(node, ast.ExceptHandler):
                    caught = node.type.elts if isinstance(node.type, ast.Tuple) else [node.type]
                    self.assertLessEqual({each.id for each in caught}, own, (path.name, node.lineno))

    def test_errors_are_made_where_they_are_raised(self):
        for path, tree in trees().items():
            for node in ast.walk(tree):
                if isinstance(node, ast.Raise):
                    self.assertIsInstance(node.exc, ast.Call, (path.name, node.lineno))
                    self.assertEqual(node.exc.keywords, [], (path.name, node.lineno))
                    self.assertRegex(node.exc.func.id, "^[A-Z]", (path.name, node.lineno))

    def test_tables_hold_no_lists_and_no_dicts(self):
        for path, tree in trees().items():
            for node in tree.body:
                if isinstance(node, ast.Assign):
                    inner = [each for each in ast.walk(node.value) if each is not node.value]
                    self.assertFalse([each for each in inner if isinstance(each, (ast.List, ast.Dict, ast.Set))], path.name)


class Across(unittest.TestCase):
    def test_imports_name_the_file_that_defines(self):
        for path, tree in trees().items():
            for node in ast.walk(tree):
                if isinstance(node, ast.ImportFrom):
                    self.assertEqual(node.level, 0, path.name)
                    source = ast.parse((PACKAGE.parent / (node.module.replace(".", "/") + ".py")).read_text())
                    own = {inner.name for inner in source.body if isinstance(inner, (ast.FunctionDef, ast.ClassDef))}
                    own |= {inner.targets[0].id for inner in source.body if isinstance(inner, ast.Assign)}
                    for alias in node.names:
                        self.assertIn(alias.name, own, path.name)

    def test_no_two_files_import_from_each_other(self):
        needs = {f"gromatic.{path.stem}": {node.module for node in ast.walk(tree) if isinstance(node, ast.ImportFrom)}
                 for path, tree in trees().items()}
        while needs:
            free = [name for name in needs if not needs[name] & set(needs)]
            self.assertTrue(free, f"these import from each other: {sorted(needs)}")
            needs = {name: needs[name] for name in needs if name not in free}

    def test_no_name_is_a_method_and_an_attribute(self):
        methods, attributes = set(), set()
        for tree in trees().values():
            for node in ast.walk(tree):
                if isinstance(node, ast.ClassDef):
                    methods |= {inner.name for inner in node.body if isinstance(inner, ast.FunctionDef)}
                elif isinstance(node, ast.Attribute) and isinstance(node.ctx, ast.Store):
                    attributes.add(node.attr)
        self.assertEqual(methods & attributes, set())


if __name__ == "__main__":
    unittest.main()

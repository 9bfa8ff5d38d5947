"""The package keeps to the part of Python that it is written in, as far as its rows show it."""

import ast
import builtins
import pathlib
import re
import unittest

PACKAGE = pathlib.Path(__file__).resolve().parent.parent / "thirdsums"
FILES = sorted(path for path in PACKAGE.rglob("*") if "__pycache__" not in path.parts)
NODES = (
    "Module Expr Constant ImportFrom alias FunctionDef arguments arg ClassDef Assign AugAssign If While For Return "
    "Break Continue Pass Raise Try ExceptHandler Call Name Load Store Attribute Subscript Slice List Tuple Dict "
    "BinOp Add Sub Mult FloorDiv Mod Pow UnaryOp USub Not BoolOp And Or Compare Eq NotEq Lt LtE Gt GtE Is IsNot "
    "In NotIn IfExp ListComp comprehension JoinedStr FormattedValue Lambda"
).split(" ")
OWN_NAMES = (
    "len range enumerate zip min max sum abs sorted reversed int str bool list tuple dict set frozenset isinstance "
    "ord repr any all divmod Exception ValueError KeyError IndexError LookupError ZeroDivisionError "
    "ArithmeticError OverflowError RuntimeError NotImplementedError StopIteration"
).split(" ")
METHODS = (
    "append clear copy count endswith extend find get index insert isalnum isalpha isdigit islower isspace isupper "
    "items join keys ljust lower lstrip partition pop remove replace reverse rfind rjust rpartition rsplit rstrip "
    "setdefault split splitlines startswith strip update upper values zfill bit_length"
).split(" ")
NOT_NAMES = (
    "register mro elements open input version_info with_traceback add_note attrgetter breakpoint builtins compile "
    "copyright credits delattr dir eval exec exit gc getattr globals hasattr help id importlib license locals "
    "methodcaller os quit setattr super type vars sys"
).split(" ")
NOT_WORDS = (
    "type typing typing_extensions enum Enum IntEnum StrEnum Flag IntFlag Generic Protocol ABC ABCMeta namedtuple "
    "NamedTuple TypedDict TYPE_CHECKING abstractmethod"
).split(" ")
NOT_WITHIN = ("dataclass", "overload", "contextmanager")
TAKEN_VALUES = {name for kind in (str, int, list, dict, set, bytes) for name in dir(kind)}
MAY_BE_VALUES = "count index title find get join lower upper split strip copy add".split(" ")


def trees():
    return [(path, ast.parse(path.read_text())) for path in FILES]


def nodes(kind):
    return [(path, node) for path, tree in trees() for node in ast.walk(tree) if isinstance(node, kind)]


def top_names(tree):
    found = []
    for node in tree.body:
        if isinstance(node, (ast.FunctionDef, ast.ClassDef)):
            found.append(node.name)
        if isinstance(node, ast.Assign):
            found.append(node.targets[0].id)
    return found


class Language(unittest.TestCase):
    def test_files(self):
        self.assertTrue((PACKAGE / "__init__.py").is_file())
        for path in FILES:
            self.assertRegex(path.name, r"\A([a-z][a-z0-9_]*|__init__)\.py\Z")
            self.assertNotIn(path.stem, dir(builtins))
            text = path.read_text()
            self.assertRegex(text, r"\A[\n -~]*\Z")
            rows = text.split("\n")
            self.assertLessEqual(len(rows), 400, path)
            self.assertLessEqual(max(len(row) for row in rows), 120, path)
            for word in NOT_WORDS:
                self.assertIsNone(re.search(rf"\b{word}\b", text), (path, word))
            for word in NOT_WITHIN:
                self.assertNotIn(word, text, path)

    def test_nodes(self):
        for path, node in nodes(ast.AST):
            self.assertIn(type(node).__name__, NODES, (path, getattr(node, "lineno", 0)))

    def test_functions(self):
        for path, node in nodes(ast.FunctionDef):
            self.assertLessEqual(node.end_lineno - node.lineno + 1, 40, (path, node.name))
            self.assertEqual(node.decorator_list, [])
            self.assertTrue(node.args.vararg is None and node.args.kwarg is None and node.args.kwonlyargs == [])
            self.assertIsNone(ast.get_docstring(node))

    def test_imports(self):
        drawn = {}
        for path, tree in trees():
            drawn[path.stem] = []
            for node in [node for node in tree.body if isinstance(node, ast.ImportFrom)]:
                self.assertRegex(node.module, r"\Athirdsums\.[a-z]+\Z")
                other = PACKAGE / (node.module.split(".")[1] + ".py")
                for alias in node.names:
                    self.assertIn(alias.name, top_names(ast.parse(other.read_text())), path)
                    self.assertIsNone(alias.asname)
                drawn[path.stem].append(other.stem)
        while drawn:
            free = [name for name in drawn if not set(drawn[name]) & set(drawn)]
            self.assertTrue(free, f"files that draw from one another: {sorted(drawn)}")
            for name in free:
                drawn.pop(name)

    def test_every_import_is_used(self):
        for path, tree in trees():
            used = [node.id for node in ast.walk(tree) if isinstance(node, ast.Name)]
            for node in [node for node in tree.body if isinstance(node, ast.ImportFrom)]:
                for alias in node.names:
                    self.assertIn(alias.name, used, path)

    def test_names(self):
        for path, tree in trees():
            known = top_names(tree)
            self.assertEqual(len(known), len(set(known)), path)
            bound = known + [alias.name for node in tree.body if isinstance(node, ast.ImportFrom) for alias in node.names]
            for node in ast.walk(tree):
                if isinstance(node, ast.Name) and isinstance(node.ctx, ast.Store) or isinstance(node, ast.arg):
                    name = node.id if isinstance(node, ast.Name) else node.arg
                    self.assertRegex(name, r"\A[A-Za-z][A-Za-z0-9_]*\Z")
                    self.assertNotIn(name, dir(builtins), path)
                    self.assertNotIn(name, NOT_NAMES, path)
                elif isinstance(node, ast.Name) and node.id in dir(builtins) and node.id not in bound:
                    self.assertIn(node.id, OWN_NAMES, path)

    def test_locals_hide_no_import_and_no_top_name(self):
        for path, tree in trees():
            bound = top_names(tree)
            bound += [alias.name for node in tree.body if isinstance(node, ast.ImportFrom) for alias in node.names]
            for function in [node for node in ast.walk(tree) if isinstance(node, ast.FunctionDef)]:
                for node in ast.walk(function):
                    if isinstance(node, ast.arg):
                        self.assertNotIn(node.arg, bound, path)
                    if isinstance(node, ast.Name) and isinstance(node.ctx, ast.Store):
                        self.assertNotIn(node.id, bound, path)

    def test_values_and_methods_of_objects(self):
        methods = {node.name for path, cls in nodes(ast.ClassDef) for node in cls.body if hasattr(node, "name")}
        values = {node.attr for path, node in nodes(ast.Attribute) if isinstance(node.ctx, ast.Store)}
        self.assertEqual(methods & values, set())
        for name in values:
            self.assertTrue(name not in TAKEN_VALUES or name in MAY_BE_VALUES, name)
        for name in methods - {"__init__"}:
            self.assertTrue(name not in TAKEN_VALUES or name in METHODS, name)
        for path, node in nodes(ast.Attribute):
            self.assertIn(node.attr, list(methods | values) + METHODS, path)
            self.assertNotIn(node.attr, NOT_NAMES, path)

    def test_assignments_have_one_name_each(self):
        for path, node in nodes(ast.Assign):
            self.assertEqual(len(node.targets), 1, path)
            self.assertNotIsInstance(node.targets[0], (ast.Tuple, ast.List), path)

    def test_errors_are_the_programs_own(self):
        own = {node.name for path, node in nodes(ast.ClassDef)}
        for path, node in nodes(ast.ExceptHandler):
            self.assertIn(node.type.id, own, path)
        for path, node in nodes(ast.Raise):
            self.assertIn(node.exc.func.id, own, path)

    def test_no_number_or_text_of_a_forbidden_kind(self):
        for path, node in nodes(ast.Constant):
            self.assertIn(type(node.value), (int, str, bool, type(None)), path)
            if isinstance(node.value, str):
                self.assertNotIn("%", node.value, path)
        for path, node in nodes(ast.Compare):
            for operator, right in zip(node.ops, node.comparators):
                if isinstance(operator, (ast.Is, ast.IsNot)):
                    self.assertIsInstance(right, ast.Constant, path)


if __name__ == "__main__":
    unittest.main()

"""The package keeps to the part of Python that it is written in, as far as a reading can tell."""

import ast
import builtins
import pathlib
import re
import unittest

PACKAGE = pathlib.Path(__file__).resolve().parent.parent / "unlikesteps"
FILES = sorted(PACKAGE.glob("*.py"))

OWN_NAMES = set(
    "len range enumerate zip min max sum abs sorted reversed int str bool bytes list tuple dict set frozenset "
    "isinstance ord repr any all divmod Exception ValueError TypeError KeyError IndexError LookupError "
    "ZeroDivisionError ArithmeticError OverflowError RuntimeError NotImplementedError AttributeError "
    "StopIteration".split()
)
WORDS = re.compile(
    r"\b(type|typing|typing_extensions|enum|Enum|IntEnum|StrEnum|Flag|IntFlag|Generic|Protocol|ABC|ABCMeta|"
    r"namedtuple|NamedTuple|TypedDict|TYPE_CHECKING|abstractmethod)\b|dataclass|overload|contextmanager"
)
NOT_LET = (
    ast.With, ast.Match, ast.Global, ast.Nonlocal, ast.Yield, ast.YieldFrom, ast.AsyncFunctionDef, ast.AsyncFor,
    ast.AsyncWith, ast.Await, ast.GeneratorExp, ast.NamedExpr, ast.Div, ast.Import, ast.MatMult,
)
METHODS = set(
    "append clear copy count endswith extend find get index insert isalnum isalpha isdigit islower isspace isupper "
    "items join keys ljust lower lstrip partition pop remove replace reverse rfind rjust rpartition rsplit rstrip "
    "setdefault split splitlines startswith strip update upper values zfill bit_length removeprefix "
    "removesuffix".split()
)
TOP = (ast.Expr, ast.ImportFrom, ast.FunctionDef, ast.ClassDef, ast.Assign)


def names_of(node):
    if isinstance(node, ast.Name):
        return [node.id]
    if isinstance(node, ast.arg):
        return [node.arg]
    if isinstance(node, (ast.FunctionDef, ast.ClassDef)):
        return [node.name]
    if isinstance(node, ast.Attribute):
        return [node.attr]
    return []


def drawn_files(tree):
    """The modules that a file draws names from."""
    return [node.module for node in tree.body if isinstance(node, ast.ImportFrom)]


def names_of_the_top(tree):
    """The classes and the drawn names of a file, those that no local may be called like."""
    classes = [node.name for node in tree.body if isinstance(node, ast.ClassDef)]
    return classes + [part.name for node in tree.body if isinstance(node, ast.ImportFrom) for part in node.names]


class LanguageTest(unittest.TestCase):
    def each_node(self):
        for file in FILES:
            for node in ast.walk(ast.parse(file.read_text("ascii"))):
                yield file.name, node

    def test_only_plain_files(self):
        self.assertIn(PACKAGE / "__init__.py", FILES)
        for path in PACKAGE.iterdir():
            if path.name != "__pycache__":
                self.assertRegex(path.name, r"^[a-z0-9_]+\.py$")

    def test_signs_words_and_sizes(self):
        for file in FILES:
            rows = file.read_text("ascii").split("\n")
            self.assertLessEqual(len(rows), 400, file.name)
            for row in rows:
                self.assertLessEqual(len(row), 120, (file.name, row))
                self.assertRegex(row, r"^[ -~]*$", file.name)
                self.assertIsNone(WORDS.search(row), (file.name, row))

    def test_top_of_each_file(self):
        for file in FILES:
            tree = ast.parse(file.read_text("ascii"))
            self.assertIsNotNone(ast.get_docstring(tree), file.name)
            for node in tree.body:
                self.assertIsInstance(node, TOP, (file.name, node.lineno))

    def test_imports(self):
        for name, node in self.each_node():
            if isinstance(node, ast.ImportFrom):
                self.assertEqual(node.level, 0, (name, node.lineno))
                self.assertTrue(node.module.startswith("unlikesteps."), (name, node.lineno))
                self.assertTrue(all(part.name != "*" for part in node.names), (name, node.lineno))

    def test_names_are_drawn_from_where_they_are_defined(self):
        trees = {f"unlikesteps.{file.stem}": ast.parse(file.read_text("ascii")) for file in FILES}
        for tree in trees.values():
            for node in tree.body:
                if isinstance(node, ast.ImportFrom):
                    tops = trees[node.module].body
                    tops = tops + [target for top in tops if isinstance(top, ast.Assign) for target in top.targets]
                    defined = [name for top in tops for name in names_of(top)]
                    for part in node.names:
                        self.assertIn(part.name, defined, node.module)

    def test_no_two_files_draw_from_one_another(self):
        drawn = {f"unlikesteps.{file.stem}": drawn_files(ast.parse(file.read_text("ascii"))) for file in FILES}
        while drawn:
            free = [name for name in drawn if not any(other in drawn for other in drawn[name])]
            self.assertNotEqual(free, [], sorted(drawn))
            drawn = {name: drawn[name] for name in drawn if name not in free}

    def test_locals_hide_no_class_and_no_drawn_name(self):
        for file in FILES:
            tree = ast.parse(file.read_text("ascii"))
            kept = names_of_the_top(tree)
            self.assertEqual(len(set(kept)), len(kept), file.name)
            for node in ast.walk(tree):
                if isinstance(node, ast.arg) or isinstance(node, ast.Name) and isinstance(node.ctx, ast.Store):
                    self.assertNotIn(names_of(node)[0], kept, (file.name, node.lineno))

    def test_is_stands_beside_none_and_truths(self):
        for name, node in self.each_node():
            if isinstance(node, ast.Compare):
                for sign, thing in zip(node.ops, node.comparators):
                    if isinstance(sign, (ast.Is, ast.IsNot)):
                        self.assertIn(ast.unparse(thing), ("None", "True", "False"), (name, node.lineno))

    def test_nothing_that_is_not_let(self):
        for name, node in self.each_node():
            self.assertNotIsInstance(node, NOT_LET, (name, getattr(node, "lineno", 0)))
            if isinstance(node, ast.Constant):
                self.assertNotIsInstance(node.value, (float, complex), (name, node.lineno))
                self.assertFalse(isinstance(node.value, str) and "%" in node.value, (name, node.lineno))
            if isinstance(node, (ast.For, ast.While)):
                self.assertEqual(node.orelse, [], (name, node.lineno))

    def test_methods_and_values(self):
        own = {node.name for name, node in self.each_node() if isinstance(node, ast.FunctionDef)}
        for name, node in self.each_node():
            if isinstance(node, ast.Attribute) and isinstance(node.ctx, ast.Store):
                self.assertEqual(ast.unparse(node.value), "self", (name, node.lineno))
                own.add(node.attr)
        for name, node in self.each_node():
            if isinstance(node, ast.Attribute):
                self.assertIn(node.attr, METHODS | own, (name, node.lineno))

    def test_sets_stand_within_sorted_and_len(self):
        let = []
        for name, node in self.each_node():
            if isinstance(node, ast.Call) and ast.unparse(node.func) in ("sorted", "len") and not node.keywords:
                let += [(name, thing.lineno, thing.col_offset) for thing in node.args]
            self.assertNotIsInstance(node, ast.Set)
        for name, node in self.each_node():
            made = isinstance(node, ast.Call) and ast.unparse(node.func) in ("set", "frozenset")
            if made or isinstance(node, ast.SetComp):
                self.assertIn((name, node.lineno, node.col_offset), let)

    def test_what_is_walked_is_not_kept(self):
        for name, node in self.each_node():
            if isinstance(node, (ast.Assign, ast.Return)) and isinstance(node.value, ast.Call):
                told = ast.unparse(node.value.func).split(".")[-1]
                self.assertNotIn(told, ("zip", "range", "enumerate", "reversed", "items", "keys", "values"), name)

    def test_functions(self):
        for name, node in self.each_node():
            if isinstance(node, ast.FunctionDef):
                self.assertLessEqual(node.end_lineno - node.lineno + 1, 40, (name, node.name))
                self.assertEqual(node.decorator_list, [], (name, node.name))
                given = node.args
                self.assertFalse(given.vararg or given.kwarg or given.posonlyargs, (name, node.name))

    def test_names(self):
        built_in = set(dir(builtins))
        for name, node in self.each_node():
            for word in names_of(node):
                self.assertRegex(word, r"^([A-Za-z][A-Za-z0-9_]*|__init__)$", (name, word))
            if isinstance(node, ast.Name) and node.id in built_in:
                self.assertIn(node.id, OWN_NAMES, (name, node.lineno))
                self.assertIsInstance(node.ctx, ast.Load, (name, node.lineno))
            if isinstance(node, ast.arg):
                self.assertNotIn(node.arg, built_in, (name, node.lineno))


if __name__ == "__main__":
    unittest.main()

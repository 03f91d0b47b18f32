"""The rules of the language that a short look at the files of the package can see."""

import ast
import builtins
import pathlib
import re
import unittest

PACKAGE = pathlib.Path(__file__).resolve().parent.parent / "meetonce"
ALLOWED = """len range enumerate zip min max sum abs sorted reversed int str bool bytes list tuple dict set frozenset
isinstance ord repr any all divmod pow getattr hasattr setattr iter next map type super""".split()
LIBRARY = ("heapq", "math", "itertools", "collections")
MODIFYING = """append clear extend insert pop remove reverse setdefault update sort add discard
appendleft popleft extendleft rotate""".split()
BARRED = re.compile(r"\b(async|register|mro|elements|open|input|law|version_info|with_traceback|add_note|compile|eval"
                    r"|exec|vars|globals|locals|typing|enum|namedtuple|dataclass)\b|_wall")


def files():
    """The files of the package with their texts."""
    return [(path, path.read_text(encoding="utf-8")) for path in sorted(PACKAGE.rglob("*.py"))]


def trees():
    """The files of the package with their syntax trees."""
    return [(path, ast.parse(text)) for path, text in files()]


def imports_of(tree):
    """The imports at the top of a file."""
    return [node for node in ast.walk(tree) if isinstance(node, (ast.Import, ast.ImportFrom))]


def reads_a_field(node):
    """True if an attribute is read in the expression, other than as a method that is called."""
    called = [each.func for each in ast.walk(node) if isinstance(each, ast.Call)]
    return any(isinstance(each, ast.Attribute) and each not in called for each in ast.walk(node))


def changes_a_field(node):
    """True if the statement or expression changes an attribute, or what an attribute holds."""
    if isinstance(node, ast.Call) and isinstance(node.func, ast.Attribute):
        return node.func.attr in MODIFYING and reads_a_field(node.func.value)
    return isinstance(getattr(node, "ctx", None), (ast.Store, ast.Del)) and reads_a_field(node)


class LanguageTest(unittest.TestCase):
    """Sizes, characters, imports and a few forms that are easy to slip into."""

    def test_the_folder_holds_nothing_but_python_files(self):
        names = [path.name for path in PACKAGE.rglob("*") if "__pycache__" not in path.parts]
        self.assertIn("__init__.py", names)
        self.assertEqual([], [name for name in names if not re.fullmatch(r"[a-z0-9_]+\.py", name)])

    def test_sizes_and_characters(self):
        for path, text in files():
            with self.subTest(path.name):
                self.assertLessEqual(len(text.splitlines()), 399)
                self.assertLessEqual(max(len(line) for line in text.splitlines()), 120)
                self.assertEqual([], re.findall(r"[^ -~\n]", text))
                self.assertIsNone(BARRED.search(re.sub(r'"""[^"]*"""|#.*', "", text)))

    def test_functions_are_small(self):
        for path, tree in trees():
            for node in ast.walk(tree):
                if isinstance(node, ast.FunctionDef):
                    with self.subTest(f"{path.name} {node.name}"):
                        self.assertLessEqual(node.end_lineno - node.lineno + 1, 40)

    def test_imports_name_the_file_that_defines_the_name(self):
        defined = {path.stem: {node.name for node in tree.body if hasattr(node, "name")} for path, tree in trees()}
        for path, tree in trees():
            for node in imports_of(tree):
                with self.subTest(f"{path.name} {node.lineno}"):
                    self.assertIsInstance(node, ast.ImportFrom)
                    self.assertEqual(0, node.level)
                    if node.module not in LIBRARY:
                        package, _, module = node.module.partition(".")
                        self.assertEqual("meetonce", package)
                        self.assertLessEqual({alias.name for alias in node.names}, defined[module])

    def test_no_two_files_import_from_each_other(self):
        needs = {path.stem: {node.module.rpartition(".")[2] for node in imports_of(tree)} for path, tree in trees()}
        while needs:
            free = [name for name, others in needs.items() if not others & set(needs)]
            self.assertTrue(free, f"a circle of imports among {sorted(needs)}")
            for name in free:
                del needs[name]

    def test_no_name_has_the_name_of_a_builtin(self):
        for path, tree in trees():
            methods = [each for node in ast.walk(tree) if isinstance(node, ast.ClassDef) for each in node.body]
            for node in ast.walk(tree):
                name = node.id if isinstance(node, ast.Name) and isinstance(node.ctx, ast.Store) else None
                name = node.arg if isinstance(node, ast.arg) else name
                if isinstance(node, (ast.FunctionDef, ast.ClassDef)) and node not in methods:
                    name = node.name
                self.assertNotIn(name, dir(builtins), path.name)

    def test_no_local_name_has_the_name_of_an_import_or_a_class(self):
        for path, tree in trees():
            taken = {alias.name for node in imports_of(tree) for alias in node.names}
            taken |= {node.name for node in tree.body if isinstance(node, ast.ClassDef)}
            for node in ast.walk(tree):
                name = node.id if isinstance(node, ast.Name) and isinstance(node.ctx, ast.Store) else None
                name = node.arg if isinstance(node, ast.arg) else name
                self.assertNotIn(name, taken, path.name)

    def test_what_a_class_has_is_a_method_or_an_attribute(self):
        for path, tree in trees():
            for kind in [node for node in tree.body if isinstance(node, ast.ClassDef)]:
                methods = [node.name for node in kind.body if isinstance(node, ast.FunctionDef)]
                fields = [node.attr for node in ast.walk(kind)
                          if isinstance(node, ast.Attribute) and isinstance(node.ctx, ast.Store)]
                self.assertEqual([], [name for name in methods if name in fields or methods.count(name) > 1], path.name)

    def test_a_generator_shares_its_name_with_nothing(self):
        names = [(node.name, any(isinstance(each, (ast.Yield, ast.YieldFrom)) for each in ast.walk(node)))
                 for _, tree in trees() for node in ast.walk(tree) if isinstance(node, ast.FunctionDef)]
        for generator in [name for name, yields in names if yields]:
            self.assertEqual(1, [name for name, _ in names].count(generator))
            for path, tree in trees():
                stored = [node for node in ast.walk(tree) if isinstance(node, ast.Name) and node.id == generator
                          and isinstance(node.ctx, ast.Store)]
                self.assertEqual([], stored, path.name)

    def test_only_listed_builtins_are_used(self):
        errors = [name for name in dir(builtins) if name.endswith("Error")]
        plain = ["None", "True", "False", "NotImplemented"]
        for path, tree in trees():
            for node in ast.walk(tree):
                if isinstance(node, ast.Name) and node.id in dir(builtins):
                    self.assertIn(node.id, ALLOWED + errors + plain, f"{path.name} {node.lineno}")

    def test_a_loop_over_a_field_changes_no_field(self):
        for path, tree in trees():
            for node in ast.walk(tree):
                if isinstance(node, ast.For) and reads_a_field(node.iter):
                    changes = [each.lineno for row in node.body for each in ast.walk(row) if changes_a_field(each)]
                    self.assertEqual([], changes, path.name)

    def test_what_asks_for_truth_or_order_takes_a_list(self):
        for path, tree in trees():
            for node in ast.walk(tree):
                name = getattr(getattr(node, "func", None), "id", None)
                if name in ("any", "all", "min", "max", "sum", "sorted"):
                    kinds = [each for each in node.args if isinstance(each, ast.GeneratorExp)]
                    self.assertEqual([], kinds, f"{path.name} {node.lineno}")


if __name__ == "__main__":
    unittest.main()

"""The package keeps to the rules of its language that can be read off the files."""

import ast
import unittest
from pathlib import Path

PACKAGE = Path(__file__).resolve().parent.parent / "mapflow"
LIBRARY = {
    "heapq": {"heappush", "heappop", "heapify", "heapreplace", "heappushpop"},
    "math": {"gcd", "lcm", "isqrt", "comb", "perm", "factorial"},
    "itertools": {
        "product", "combinations", "permutations", "chain", "accumulate", "pairwise", "islice", "zip_longest",
    },
    "collections": {"defaultdict", "deque"},
}
BARRED = (ast.AsyncFunctionDef, ast.AsyncFor, ast.AsyncWith, ast.Await, ast.Div, ast.Import)
BUILTINS = set(
    "len range enumerate zip min max sum abs sorted reversed int str bool bytes list tuple dict set frozenset isinstance"
    " ord repr any all divmod pow getattr hasattr setattr iter next map super type property staticmethod classmethod"
    " Exception ValueError TypeError KeyError IndexError LookupError ZeroDivisionError ArithmeticError OverflowError"
    " RuntimeError NotImplementedError AttributeError StopIteration NotImplemented".split()
)
METHODS = set(
    "append clear copy count endswith extend find get index insert isalnum isalpha isdigit islower isspace isupper items join"
    " keys ljust lower lstrip partition pop remove replace reverse rfind rjust rpartition rsplit rstrip setdefault split"
    " splitlines startswith strip update upper values zfill bit_length removeprefix removesuffix isascii".split()
)


def source_files():
    return sorted(path for path in PACKAGE.rglob("*") if path.is_file() and "__pycache__" not in path.parts)


def trees():
    return [(path, ast.parse(path.read_text("utf-8"))) for path in source_files()]


def imports_of(tree):
    return [node for node in ast.walk(tree) if isinstance(node, (ast.Import, ast.ImportFrom))]


class FilesTest(unittest.TestCase):
    def test_only_python_files(self):
        for path in source_files():
            self.assertRegex(path.name, r"^[a-z0-9_]+\.py$")
        self.assertIn(PACKAGE / "__init__.py", source_files())

    def test_sizes_and_characters(self):
        for path in source_files():
            lines = path.read_text("utf-8").split("\n")
            self.assertLessEqual(len(lines) - 1, 399, path)
            for line in lines:
                self.assertLessEqual(len(line), 120, f"{path}: {line}")
                self.assertTrue(all(" " <= sign <= "~" for sign in line), f"{path}: {line}")

    def test_functions_are_short(self):
        for path, tree in trees():
            for node in ast.walk(tree):
                if isinstance(node, ast.FunctionDef):
                    self.assertLessEqual(node.end_lineno - node.lineno + 1, 40, f"{path}: {node.name}")


class ImportsTest(unittest.TestCase):
    def test_only_the_package_and_the_named_library(self):
        for path, tree in trees():
            for node in imports_of(tree):
                self.assertIsInstance(node, ast.ImportFrom, path)
                self.assertIn(node, tree.body, path)
                self.assertEqual(node.level, 0, path)
                names = {alias.name for alias in node.names}
                if node.module in LIBRARY:
                    self.assertLessEqual(names, LIBRARY[node.module], path)
                else:
                    self.assertTrue(self.defines(node.module, names), f"{path}: {node.module}")

    def defines(self, module, names):
        """Whether the module is a file of the package that itself defines all the names."""
        file = PACKAGE.parent / (module.replace(".", "/") + ".py")
        if not module.startswith("mapflow.") or not file.is_file():
            return False
        found = set()
        for node in ast.parse(file.read_text("utf-8")).body:
            if isinstance(node, (ast.FunctionDef, ast.ClassDef)):
                found.add(node.name)
            if isinstance(node, ast.Assign):
                found.update(target.id for target in node.targets)
        return names <= found

    def test_no_two_files_import_each_other(self):
        below = {
            f"mapflow.{path.stem}": {node.module for node in imports_of(tree) if node.module.startswith("mapflow.")}
            for path, tree in trees()
        }
        while below:
            free = [name for name, needed in below.items() if not needed & set(below)]
            self.assertTrue(free, f"a ring of imports among {sorted(below)}")
            for name in free:
                del below[name]


class WordsTest(unittest.TestCase):
    def test_no_barred_statement(self):
        for path, tree in trees():
            for node in ast.walk(tree):
                self.assertNotIsInstance(node, BARRED, path)
                if isinstance(node, ast.Constant):
                    self.assertNotIsInstance(node.value, (float, complex), path)

    def test_only_listed_builtins(self):
        own = set(vars(__import__("builtins")))
        for path, tree in trees():
            for node in ast.walk(tree):
                if isinstance(node, ast.Name) and node.id in own:
                    self.assertIn(node.id, BUILTINS, path)
                    self.assertIsInstance(node.ctx, ast.Load, f"{path}: {node.id}")

    def test_module_level_is_plain(self):
        plain = (ast.FunctionDef, ast.ClassDef, ast.ImportFrom, ast.Assign, ast.Expr)
        for path, tree in trees():
            for node in tree.body:
                self.assertIsInstance(node, plain, path)
                if isinstance(node, ast.Expr):
                    self.assertIsInstance(node.value, ast.Constant, path)

    def test_only_methods_are_decorated(self):
        for path, tree in trees():
            for node in tree.body:
                if isinstance(node, (ast.FunctionDef, ast.ClassDef)):
                    self.assertEqual(node.decorator_list, [], f"{path}: {node.name}")


def parents_of(tree):
    return {child: node for node in ast.walk(tree) for child in ast.iter_child_nodes(node)}


def own_methods():
    found = set()
    for _, tree in trees():
        for node in ast.walk(tree):
            if isinstance(node, ast.ClassDef):
                found.update(row.name for row in node.body if isinstance(row, ast.FunctionDef))
    return found


def is_call_of(node, *names):
    return isinstance(node, ast.Call) and isinstance(node.func, ast.Name) and node.func.id in names


class FineRulesTest(unittest.TestCase):
    def test_no_generator_expression(self):
        for path, tree in trees():
            for node in ast.walk(tree):
                self.assertNotIsInstance(node, (ast.GeneratorExp, ast.Lambda, ast.Global, ast.With), path)

    def test_only_listed_methods(self):
        own = own_methods()
        for path, tree in trees():
            for node in ast.walk(tree):
                if isinstance(node, ast.Call) and isinstance(node.func, ast.Attribute):
                    self.assertIn(node.func.attr, METHODS | own, path)
                    if node.func.attr in METHODS:
                        self.assertEqual(node.keywords, [], path)

    def test_sets_stand_in_sorted_len_or_a_comparison(self):
        for path, tree in trees():
            above = parents_of(tree)
            for node in ast.walk(tree):
                if isinstance(node, (ast.Set, ast.SetComp)) or is_call_of(node, "set"):
                    around = above[node]
                    while isinstance(around, ast.BinOp):
                        around = above[around]
                    fits = is_call_of(around, "sorted", "len") or isinstance(around, ast.Compare)
                    self.assertTrue(fits, f"{path}: {node.lineno}")

    def test_errors_that_are_caught(self):
        errors = {node.name for node in ast.walk(ast.parse((PACKAGE / "errors.py").read_text("utf-8")))
                  if isinstance(node, ast.ClassDef)}
        for path, tree in trees():
            for node in ast.walk(tree):
                if isinstance(node, ast.ExceptHandler):
                    self.assertIn(node.type.id, errors | {"KeyError", "ZeroDivisionError"}, path)
                if isinstance(node, ast.Raise):
                    self.assertIn(node.exc.func.id, errors, path)
                    self.assertEqual(node.exc.keywords, [], path)

    def test_no_name_has_two_meanings(self):
        builtins = set(vars(__import__("builtins")))
        for path, tree in trees():
            taken = builtins | {alias.name for node in imports_of(tree) for alias in node.names}
            taken |= {node.name for node in tree.body if isinstance(node, (ast.FunctionDef, ast.ClassDef))}
            for node in ast.walk(tree):
                if isinstance(node, ast.arg):
                    self.assertNotIn(node.arg, taken, path)
                if isinstance(node, ast.Name) and isinstance(node.ctx, (ast.Store, ast.Del)):
                    self.assertNotIn(node.id, taken, path)

    def test_underscore_is_never_read(self):
        for path, tree in trees():
            for node in ast.walk(tree):
                if isinstance(node, ast.Name) and isinstance(node.ctx, ast.Load):
                    self.assertFalse(node.id.startswith("_"), path)

    def test_stars_stand_before_names_and_lists(self):
        for path, tree in trees():
            for node in ast.walk(tree):
                if isinstance(node, ast.Call):
                    for value in node.args:
                        if isinstance(value, ast.Starred):
                            self.assertIsInstance(value.value, (ast.Name, ast.Attribute, ast.List, ast.Tuple), path)

    def test_no_sign_of_a_remainder_in_a_string(self):
        for path, tree in trees():
            for node in ast.walk(tree):
                if isinstance(node, ast.Constant) and isinstance(node.value, str):
                    self.assertNotIn("%", node.value, path)

    def test_inner_comprehensions_have_names_of_their_own(self):
        kinds = (ast.ListComp, ast.DictComp, ast.SetComp)
        for path, tree in trees():
            for node in ast.walk(tree):
                if isinstance(node, kinds):
                    outer = self.names_of(node)
                    for below in ast.walk(node):
                        if below is not node and isinstance(below, kinds):
                            self.assertFalse((outer & self.names_of(below)) - {"_"}, f"{path}: {node.lineno}")

    def names_of(self, node):
        return {name.id for loop in node.generators for name in ast.walk(loop.target) if isinstance(name, ast.Name)}


if __name__ == "__main__":
    unittest.main()

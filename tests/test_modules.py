"""[c6], and the rules of LANGUAGE.md that can be seen in a file: modules, imports, sizes, names."""

import ast
import builtins
import unittest
from pathlib import Path

PACKAGE = Path(__file__).resolve().parent.parent / "everyturn"
ORDER = ("errors values tokens expressions instructions programs writing machine showing schedules order classes "
         "exploring counting failures races notices blocks faults observers bench guarding repairs nearest papers "
         "judge").split()
LIBRARY = {"heapq": {"heappush", "heappop", "heapify", "heapreplace", "heappushpop"},
           "math": {"gcd", "lcm", "isqrt", "comb", "perm", "factorial"},
           "itertools": {"product", "combinations", "permutations", "chain", "accumulate", "pairwise", "islice",
                         "zip_longest"},
           "collections": {"defaultdict", "deque"}}
# Taken here, because the doctests of another file give Python one more, `_`, when they run in this process.
NAMES_OF_PYTHON = dir(builtins)
BUILTINS = ("len range enumerate zip min max sum abs sorted reversed int str bool list tuple dict set isinstance ord "
            "repr any all divmod ValueError TypeError KeyError IndexError").split()
NEVER_NAMED = ("register", "mro", "elements", "open", "input", "law", "type", "compile", "dir", "eval", "exec", "exit",
               "help", "id", "vars", "locals", "globals", "super", "os", "sys", "gc")


def trees():
    """The parsed files of the package by their names."""
    return {path.stem: ast.parse(path.read_text(encoding="ascii")) for path in sorted(PACKAGE.glob("*.py"))}


def bound_names(tree):
    """All names that a file gives to something, those of methods and attributes left out."""
    methods = [node for kind in ast.walk(tree) if isinstance(kind, ast.ClassDef) for node in kind.body]
    for node in ast.walk(tree):
        if isinstance(node, ast.Name) and isinstance(node.ctx, ast.Store):
            yield node.id
        elif isinstance(node, ast.arg):
            yield node.arg
        elif isinstance(node, (ast.FunctionDef, ast.ClassDef)) and node not in methods:
            yield node.name


class FilesTest(unittest.TestCase):
    def test_the_package_has_the_files_of_the_document_alone(self):
        names = [path.name for path in PACKAGE.iterdir() if path.name != "__pycache__"]
        self.assertEqual(sorted(names), sorted(f"{word}.py" for word in ORDER + ["__init__"]))

    def test_sizes(self):
        for path in PACKAGE.glob("*.py"):
            lines = path.read_text(encoding="ascii").split("\n")
            self.assertLess(len(lines), 400, path)
            self.assertLessEqual(max(len(line) for line in lines), 120, path)
            self.assertNotIn("\t", "".join(lines), path)

    def test_functions_have_at_most_forty_lines(self):
        for name, tree in trees().items():
            for node in ast.walk(tree):
                if isinstance(node, ast.FunctionDef):
                    self.assertLessEqual(node.end_lineno - node.lineno + 1, 40, (name, node.name))


class ImportsTest(unittest.TestCase):
    def test_each_module_imports_those_above_it_in_the_list_alone(self):
        for name, tree in trees().items():
            above = ORDER[:ORDER.index(name)] if name in ORDER else []
            for node in ast.walk(tree):
                self.assertNotIsInstance(node, ast.Import, name)
                if isinstance(node, ast.ImportFrom) and node.module not in LIBRARY:
                    self.assertEqual(node.level, 0, name)
                    self.assertIn(node.module, [f"everyturn.{word}" for word in above], name)

    def test_the_library_is_used_as_far_as_it_is_allowed(self):
        for name, tree in trees().items():
            for node in ast.walk(tree):
                if isinstance(node, ast.ImportFrom) and node.module in LIBRARY:
                    for item in node.names:
                        self.assertIn(item.name, LIBRARY[node.module], name)
                        self.assertIsNone(item.asname, name)

    def test_imports_name_the_file_that_defines_the_name(self):
        parsed = trees()
        defined = {name: set(bound_names(tree)) for name, tree in parsed.items()}
        for name, tree in parsed.items():
            for node in tree.body:
                if isinstance(node, ast.ImportFrom) and node.module not in LIBRARY:
                    for item in node.names:
                        self.assertIn(item.name, defined[node.module.split(".")[1]], name)


class NamesTest(unittest.TestCase):
    def test_no_name_is_that_of_a_builtin_or_barred(self):
        for name, tree in trees().items():
            for word in bound_names(tree):
                self.assertFalse(word in NAMES_OF_PYTHON or word in NEVER_NAMED, (name, word))

    def test_no_local_name_is_that_of_an_import(self):
        for name, tree in trees().items():
            imported = [item.name for node in tree.body if isinstance(node, ast.ImportFrom) for item in node.names]
            self.assertEqual([word for word in bound_names(tree) if word in imported], [], name)

    def test_only_some_builtins_are_used(self):
        for name, tree in trees().items():
            for node in ast.walk(tree):
                if isinstance(node, ast.Name) and node.id in NAMES_OF_PYTHON:
                    self.assertIn(node.id, BUILTINS, name)

    def test_no_floats_no_division_and_no_percent_sign_in_strings(self):
        for name, tree in trees().items():
            for node in ast.walk(tree):
                self.assertNotIsInstance(node, ast.Div, name)
                if isinstance(node, ast.Constant):
                    self.assertNotIsInstance(node.value, float, name)
                    self.assertNotIn("%", str(node.value), name)


if __name__ == "__main__":
    unittest.main()

"""Rules of ../shared/LANGUAGE.md that can be seen by reading the files of the package."""

import ast
import builtins
import pathlib
import unittest

PACKAGE = pathlib.Path(__file__).resolve().parent.parent / "muffline"
FILES = sorted(PACKAGE.rglob("*.py"))
LIBRARY = ("heapq", "math", "itertools", "collections")
BUILTINS = """len range enumerate zip min max sum abs sorted reversed int str bool list tuple dict set isinstance ord repr
any all divmod getattr hasattr setattr iter next map Exception ValueError TypeError KeyError IndexError LookupError
ZeroDivisionError ArithmeticError OverflowError RuntimeError NotImplementedError AttributeError StopIteration
NotImplemented property staticmethod classmethod super""".split()
INTERFACE = {
    "errors": "MuffError BadText BadRole BadWorld BadMove BadClaim TooLarge BadRows BadEdit BadJoin UnknownName BadTunnel BadLine",
    "terms": "is_term is_atom is_ground size parts parts_of_row variables key_of is_less in_order",
    "notation": "write_term read_term read_role_term read_recipe",
}


def bound_names(tree):
    """All names that a file binds, but for those of its methods."""
    methods = [id(item) for node in ast.walk(tree) if isinstance(node, ast.ClassDef) for item in node.body]
    for node in ast.walk(tree):
        if isinstance(node, ast.Name) and not isinstance(node.ctx, ast.Load):
            yield node.id
        elif isinstance(node, ast.arg):
            yield node.arg
        elif isinstance(node, (ast.FunctionDef, ast.ClassDef)) and id(node) not in methods:
            yield node.name


class Language(unittest.TestCase):
    def setUp(self):
        self.trees = {path: ast.parse(path.read_text(encoding="ascii")) for path in FILES}

    def test_only_python_files(self):
        for path in PACKAGE.rglob("*"):
            if "__pycache__" not in path.parts and path.is_file():
                self.assertEqual(path.suffix, ".py", path)

    def test_sizes_and_signs(self):
        for path in FILES:
            lines = path.read_text(encoding="ascii").split("\n")
            self.assertLessEqual(len(lines), 400, path)
            for line in lines:
                self.assertLessEqual(len(line), 120, path)
                self.assertTrue(all(" " <= sign <= "~" for sign in line), (path, line))
        for path, tree in self.trees.items():
            for node in ast.walk(tree):
                if isinstance(node, ast.FunctionDef):
                    self.assertLessEqual(node.end_lineno - node.lineno + 1, 40, (path, node.name))

    def test_imports(self):
        for path, tree in self.trees.items():
            for node in ast.walk(tree):
                self.assertNotIsInstance(node, ast.Import, path)
                if isinstance(node, ast.ImportFrom):
                    self.assertEqual(node.level, 0, path)
                    head, *rest = node.module.split(".")
                    self.assertTrue(head in LIBRARY or head == "muffline" and rest, (path, node.module))
                    self.assertIn(node, tree.body)
                    self.assertTrue(all(name.name != "*" for name in node.names))

    def test_builtins(self):
        for path, tree in self.trees.items():
            bound = set(bound_names(tree))
            self.assertEqual(sorted(bound & set(dir(builtins))), [], path)
            for node in ast.walk(tree):
                if isinstance(node, ast.Name) and hasattr(builtins, node.id):
                    self.assertIn(node.id, BUILTINS, path)

    def test_imported_names_are_not_bound_again(self):
        for path, tree in self.trees.items():
            imported = [name.name for node in tree.body if isinstance(node, ast.ImportFrom) for name in node.names]
            self.assertEqual(len(imported), len(set(imported)), path)
            self.assertEqual(sorted(set(imported) & set(bound_names(tree))), [], path)

    def test_no_floats_and_no_odd_statements(self):
        barred = (ast.Div, ast.Global, ast.AsyncFunctionDef, ast.Await, ast.AsyncFor, ast.AsyncWith)
        for path, tree in self.trees.items():
            for node in ast.walk(tree):
                self.assertNotIsInstance(node, barred, (path, getattr(node, "lineno", 0)))
                if isinstance(node, ast.Constant):
                    self.assertNotIsInstance(node.value, (float, complex), path)

    def test_the_interface_is_defined_in_its_files(self):
        for name, words in INTERFACE.items():
            tree = self.trees[PACKAGE / (name + ".py")]
            defined = [node.name for node in tree.body if isinstance(node, (ast.FunctionDef, ast.ClassDef))]
            for word in words.split():
                self.assertIn(word, defined)


if __name__ == "__main__":
    unittest.main()

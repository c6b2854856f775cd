"""Rules of ../shared/LANGUAGE.md that can be seen by reading the files of the package."""

import ast
import builtins
import pathlib
import unittest

PACKAGE = pathlib.Path(__file__).resolve().parent.parent / "muffline"
FILES = sorted(PACKAGE.rglob("*.py"))
LIBRARY = ("heapq", "math", "itertools", "collections")
BUILTINS = """len range enumerate zip min max sum abs sorted reversed int str bool list tuple dict set isinstance ord repr
any all divmod getattr hasattr setattr iter next map Exception ValueError TypeError KeyError IndexError LookupError
ZeroDivisionError ArithmeticError OverflowError RuntimeError NotImplementedError AttributeError StopIteration
NotImplemented property staticmethod classmethod super""".split()
INTERFACE = {
    "errors": "MuffError BadText BadRole BadWorld BadMove BadClaim TooLarge BadRows BadEdit BadJoin UnknownName BadTunnel BadLine",
    "terms": "is_term is_atom is_ground size parts parts_of_row variables key_of is_less in_order",
    "notation": "write_term read_term read_role_term read_recipe",
    "recipes": "is_free cook recipe_size opened can_build reachable recipe_for wall_for wall_holds",
    "patterns": "apply_bindings apply_to_row match_term unify unify_rows chain_bindings",
    "roles": "check_role is_role_term role_size role_depth place_term",
    "worlds": "World",
    "runs": "replay schedule_of tidy is_tidy",
    "claims": "check_claim broken crowd leak",
    "cases": "start_case is_settled unfold next_demand",
    "judge": "judge check instance_run least_break",
    "likeness": "tells tell_apart runs_alike",
    "mends": "edited mend",
    "joining": "join_worlds apart project",
    "ward": "Ward",
    "tunnel": "Tunnel",
    "texts": "write_world read_world",
    "desk": "Desk",
}
METHODS_OF_VALUES = """append clear copy count endswith extend find get index insert isalnum isalpha isdigit islower isspace
isupper items join keys ljust lower lstrip partition pop remove replace reverse rfind rjust rpartition rsplit rstrip
setdefault split splitlines startswith strip update upper values zfill bit_length""".split()
BARRED_NAMES = """mro elements open input law version_info with_traceback add_note attrgetter breakpoint builtins compile
copyright credits delattr dir eval exec exit gc globals help id importlib license locals methodcaller os quit type vars
sys""".split()
BARRED_WORDS = """type typing typing_extensions enum Enum IntEnum StrEnum Flag IntFlag Generic Protocol ABC ABCMeta namedtuple
NamedTuple TypedDict TYPE_CHECKING abstractmethod dataclass overload contextmanager""".split()
BARRED_STARTS = ("_wall", "_pe_", "_dcw_", "_enum_", "_cm_", "_twin_re_", "_lay_", "_law_", "_stub_", "_sre")


def bound_names(tree):
    """All names that a file binds, but for those of its methods."""
    methods = [id(item) for node in ast.walk(tree) if isinstance(node, ast.ClassDef) for item in node.body]
    for node in ast.walk(tree):
        if isinstance(node, ast.Name) and not isinstance(node.ctx, ast.Load):
            yield node.id
        elif isinstance(node, ast.arg):
            yield node.arg
        elif isinstance(node, (ast.FunctionDef, ast.ClassDef)) and id(node) not in methods:
            yield node.name


def is_set(node):
    return isinstance(node, ast.Call) and isinstance(node.func, ast.Name) and node.func.id == "set"


class Language(unittest.TestCase):
    def setUp(self):
        self.trees = {path: ast.parse(path.read_text(encoding="ascii")) for path in FILES}

    def test_only_python_files(self):
        for path in PACKAGE.rglob("*"):
            if "__pycache__" not in path.parts and path.is_file():
                self.assertEqual(path.suffix, ".py", path)

    def test_sizes_and_signs(self):
        for path in FILES:
            lines = path.read_text(encoding="ascii").split("\n")
            self.assertLessEqual(len(lines), 400, path)
            for line in lines:
                self.assertLessEqual(len(line), 120, path)
                self.assertTrue(all(" " <= sign <= "~" for sign in line), (path, line))
        for path, tree in self.trees.items():
            for node in ast.walk(tree):
                if isinstance(node, ast.FunctionDef):
                    self.assertLessEqual(node.end_lineno - node.lineno + 1, 40, (path, node.name))

    def test_imports(self):
        for path, tree in self.trees.items():
            for node in ast.walk(tree):
                self.assertNotIsInstance(node, ast.Import, path)
                if isinstance(node, ast.ImportFrom):
                    self.assertEqual(node.level, 0, path)
                    head, *rest = node.module.split(".")
                    self.assertTrue(head in LIBRARY or head == "muffline" and rest, (path, node.module))
                    self.assertIn(node, tree.body)
                    self.assertTrue(all(name.name != "*" for name in node.names))

    def test_builtins(self):
        for path, tree in self.trees.items():
            bound = set(bound_names(tree))
            self.assertEqual(sorted(bound & set(dir(builtins))), [], path)
            for node in ast.walk(tree):
                if isinstance(node, ast.Name) and hasattr(builtins, node.id):
                    self.assertIn(node.id, BUILTINS, path)

    def test_imported_names_are_not_bound_again(self):
        for path, tree in self.trees.items():
            imported = [name.name for node in tree.body if isinstance(node, ast.ImportFrom) for name in node.names]
            self.assertEqual(len(imported), len(set(imported)), path)
            self.assertEqual(sorted(set(imported) & set(bound_names(tree))), [], path)

    def test_no_floats_and_no_odd_statements(self):
        barred = (ast.Div, ast.Global, ast.AsyncFunctionDef, ast.Await, ast.AsyncFor, ast.AsyncWith)
        for path, tree in self.trees.items():
            for node in ast.walk(tree):
                self.assertNotIsInstance(node, barred, (path, getattr(node, "lineno", 0)))
                if isinstance(node, ast.Constant):
                    self.assertNotIsInstance(node.value, (float, complex), path)

    def own_methods(self):
        found = []
        for tree in self.trees.values():
            for node in ast.walk(tree):
                if isinstance(node, ast.ClassDef):
                    found += [item.name for item in node.body if isinstance(item, ast.FunctionDef)]
        return found

    def test_methods_are_own_ones_or_allowed_ones(self):
        allowed = METHODS_OF_VALUES + self.own_methods()
        for path, tree in self.trees.items():
            for node in ast.walk(tree):
                if isinstance(node, ast.Call) and isinstance(node.func, ast.Attribute):
                    self.assertIn(node.func.attr, allowed, (path, node.lineno))

    def test_barred_names_and_words(self):
        for path, tree in self.trees.items():
            for name in bound_names(tree):
                self.assertNotIn(name, BARRED_NAMES + BARRED_WORDS, path)
                self.assertFalse(name.startswith(BARRED_STARTS), (path, name))
            for node in ast.walk(tree):
                if isinstance(node, ast.Attribute):
                    self.assertNotIn(node.attr, BARRED_NAMES + BARRED_WORDS + ["sort", "args", "format"], path)
            self.assertNotIn("_wall", path.read_text(encoding="ascii"))

    def test_is_stands_with_none_alone(self):
        for path, tree in self.trees.items():
            for node in ast.walk(tree):
                if isinstance(node, ast.Compare) and any(isinstance(sign, (ast.Is, ast.IsNot)) for sign in node.ops):
                    self.assertEqual([item.value for item in node.comparators], [None], (path, node.lineno))

    def test_no_recursion(self):
        for path, tree in self.trees.items():
            for node in tree.body:
                if isinstance(node, ast.FunctionDef):
                    called = [item.func.id for item in ast.walk(node)
                              if isinstance(item, ast.Call) and isinstance(item.func, ast.Name)]
                    if path.stem != "notation":
                        self.assertNotIn(node.name, called, path)

    def test_what_is_imported_is_used_and_defined_where_it_is_named(self):
        for path, tree in self.trees.items():
            used = [node.id for node in ast.walk(tree) if isinstance(node, ast.Name)]
            for node in tree.body:
                if isinstance(node, ast.ImportFrom):
                    for name in node.names:
                        self.assertIn(name.name, used, path)
                        self.assertIsNone(name.asname)
                    if node.module.startswith("muffline."):
                        target = self.trees[PACKAGE / (node.module.split(".")[1] + ".py")]
                        defined = [item.name for item in target.body if isinstance(item, (ast.FunctionDef, ast.ClassDef))]
                        defined += [item.targets[0].id for item in target.body if isinstance(item, ast.Assign)]
                        for name in node.names:
                            self.assertIn(name.name, defined, path)

    def test_no_two_files_import_each_other(self):
        above = {path.stem: [node.module.split(".")[1] for node in tree.body
                             if isinstance(node, ast.ImportFrom) and node.module.startswith("muffline.")]
                 for path, tree in self.trees.items()}
        placed = []
        while len(placed) < len(above):
            ready = [name for name in above if name not in placed and all(item in placed for item in above[name])]
            self.assertTrue(ready, "a circle of imports")
            placed += ready

    def test_sets_and_generators(self):
        for path, tree in self.trees.items():
            for node in ast.walk(tree):
                self.assertNotIsInstance(node, (ast.Set, ast.SetComp, ast.GeneratorExp, ast.Yield), (path, node))
                if isinstance(node, ast.Call) and isinstance(node.func, ast.Name) and node.func.id in ("len", "sorted"):
                    node.args = [item for item in node.args if not is_set(item)]
            for node in ast.walk(tree):
                self.assertFalse(is_set(node), (path, getattr(node, "lineno", 0)))

    def test_the_interface_is_defined_in_its_files(self):
        for name, words in INTERFACE.items():
            tree = self.trees[PACKAGE / (name + ".py")]
            defined = [node.name for node in tree.body if isinstance(node, (ast.FunctionDef, ast.ClassDef))]
            for word in words.split():
                self.assertIn(word, defined)


if __name__ == "__main__":
    unittest.main()

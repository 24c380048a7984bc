"""The package's form: those of the rules in LANGUAGE.md that are plain to count."""

import ast
import builtins
import importlib
import inspect
import pathlib
import unittest
import warnings

PACKAGE = pathlib.Path(__file__).resolve().parent.parent / "keptrow"
FILES = sorted(path for path in PACKAGE.rglob("*") if "__pycache__" not in path.parts and path.is_file())
LIBRARY = {
    "heapq": ["heappush", "heappop", "heapify", "heapreplace", "heappushpop"],
    "math": ["gcd", "lcm", "isqrt", "comb", "perm", "factorial"],
    "itertools": [
        "product", "combinations", "permutations", "chain", "accumulate", "pairwise", "islice", "zip_longest",
    ],
    "collections": ["defaultdict", "deque"],
    "__future__": ["annotations"],
}
BUILTINS = (
    "len range enumerate zip min max sum abs sorted reversed int str bool bytes list tuple dict set frozenset"
    " isinstance ord repr any all divmod pow iter next map Exception ValueError TypeError KeyError IndexError"
    " LookupError ZeroDivisionError ArithmeticError OverflowError RuntimeError NotImplementedError AttributeError"
    " StopIteration super"
).split()
BARRED = (
    "register mro elements open input law version_info with_traceback add_note attrgetter breakpoint builtins compile"
    " copyright credits delattr dir eval exec exit gc getattr globals hasattr help id importlib license locals"
    " methodcaller os quit setattr type vars sys"
).split()
OF_BUILTIN_VALUES = {word for kind in (int, str, bytes, list, dict, set) for word in dir(kind) if word[0] != "_"}
METHODS = {
    "begin": [], "read": ["number", "name"], "under": ["number", "head"], "write": ["number", "name", "value"],
    "made": ["number"], "back": ["number", "many"], "keep": ["number"], "drop": ["number"], "order": [], "moment": [],
    "ended": ["number"], "deeds": ["number"], "value": ["name"], "versions": ["name"], "sweep": [],
}


def tree_of(path):
    return ast.parse(path.read_text(encoding="ascii"))


def nodes_of(path, kind):
    return [node for node in ast.walk(tree_of(path)) if isinstance(node, kind)]


class Package(unittest.TestCase):
    def test_the_folder_holds_python_files_only(self):
        self.assertIn(PACKAGE / "__init__.py", FILES)
        for path in FILES:
            with self.subTest(path.name):
                self.assertRegex(path.name, r"\A[a-z0-9_]+\.py\Z")
                self.assertFalse(path.name.startswith("test"))

    def test_signs(self):
        for path in FILES:
            with self.subTest(path.name):
                self.assertEqual([n for n in path.read_bytes() if n != 10 and not 32 <= n <= 126], [])

    def test_sizes(self):
        for path in FILES:
            lines = path.read_text(encoding="ascii").split("\n")
            with self.subTest(path.name):
                self.assertLessEqual(len(lines), 399)
                self.assertLessEqual(max(len(line) for line in lines), 120)
                for node in nodes_of(path, ast.FunctionDef):
                    self.assertLessEqual(node.end_lineno - node.lineno + 1, 40, node.name)

    def test_python_gives_no_warning(self):
        for path in FILES:
            with self.subTest(path.name), warnings.catch_warnings():
                warnings.simplefilter("error")
                compile(path.read_text(encoding="ascii"), path.name, "exec")

    def test_imports(self):
        for path in FILES:
            with self.subTest(path.name):
                self.assertEqual(nodes_of(path, ast.Import), [])
                for node in nodes_of(path, ast.ImportFrom):
                    self.check_import(node)

    def check_import(self, node):
        self.assertEqual(node.level, 0)
        words = [alias.name for alias in node.names]
        self.assertNotIn("*", words)
        if not node.module.startswith("keptrow."):
            self.assertLessEqual(set(words), set(LIBRARY.get(node.module, [])), node.module)

    def test_nothing_runs_at_module_level(self):
        plain = (ast.Import, ast.ImportFrom, ast.FunctionDef, ast.ClassDef, ast.Assign, ast.AnnAssign)
        for path in FILES:
            body = tree_of(path).body
            rest = body[1:] if ast.get_docstring(tree_of(path)) is not None else body
            with self.subTest(path.name):
                self.assertEqual([node.lineno for node in rest if not isinstance(node, plain)], [])

    def test_no_two_files_import_from_each_other(self):
        imports = {"keptrow." + path.stem: {node.module for node in nodes_of(path, ast.ImportFrom)} for path in FILES}
        while imports:
            free = [name for name in imports if not imports[name] & set(imports)]
            self.assertNotEqual(free, [], "these import from each other: " + ", ".join(sorted(imports)))
            for name in free:
                del imports[name]

    def test_builtins_are_those_of_the_list(self):
        for path in FILES:
            used = {node.id for node in nodes_of(path, ast.Name) if isinstance(node.ctx, ast.Load)}
            with self.subTest(path.name):
                self.assertLessEqual(used & set(dir(builtins)), set(BUILTINS))

    def test_what_is_bound_has_a_name_of_its_own(self):
        for path in FILES:
            imported = {alias.name for node in nodes_of(path, ast.ImportFrom) for alias in node.names}
            classes = {node.name for node in nodes_of(path, ast.ClassDef)}
            bound = {node.id for node in nodes_of(path, ast.Name) if isinstance(node.ctx, ast.Store)}
            bound |= {node.arg for node in nodes_of(path, ast.arg)}
            words = bound | {node.name for node in tree_of(path).body if isinstance(node, ast.FunctionDef)} | classes
            with self.subTest(path.name):
                self.assertEqual(words & (set(dir(builtins)) | set(BARRED)), set())
                self.assertEqual(bound & (imported | classes), set())

    def test_methods_and_attributes_have_names_of_their_own(self):
        methods, attributes = set(), set()
        for path in FILES:
            for node in nodes_of(path, ast.ClassDef):
                methods |= {part.name for part in node.body if isinstance(part, ast.FunctionDef)}
            stored = [node for node in nodes_of(path, ast.Attribute) if isinstance(node.ctx, ast.Store)]
            attributes |= {node.attr for node in stored}
        self.assertEqual(methods & attributes, set())
        self.assertEqual((methods | attributes) & (OF_BUILTIN_VALUES | set(BARRED)), set())

    def test_nothing_of_these_kinds(self):
        kinds = (
            ast.Set, ast.SetComp, ast.Lambda, ast.Global, ast.Nonlocal, ast.Try, ast.With, ast.Yield, ast.Div,
            ast.Starred, ast.Match, ast.NamedExpr, ast.JoinedStr, ast.AnnAssign, ast.AsyncFunctionDef,
        )
        for path in FILES:
            with self.subTest(path.name):
                self.assertEqual([node.lineno for node in nodes_of(path, kinds)], [])
                for node in nodes_of(path, (ast.FunctionDef, ast.ClassDef)):
                    self.assertEqual(node.decorator_list, [], node.name)
                    self.assertTrue(ast.get_docstring(node) or node.name == "__init__", node.name)


class Interface(unittest.TestCase):
    def test_the_shelfs_methods_stand_in_the_class_itself(self):
        shelf = importlib.import_module("keptrow.shelf").Shelf
        self.assertEqual(shelf.__module__, "keptrow.shelf")
        self.assertEqual(list(inspect.signature(shelf).parameters), [])
        for name in METHODS:
            with self.subTest(name):
                self.assertIn(name, vars(shelf))
                self.assertEqual(list(inspect.signature(getattr(shelf, name)).parameters), ["self"] + METHODS[name])
        self.assertEqual({name for name in vars(shelf) if name[0] != "_"}, set(METHODS))

    def test_arguments_by_keyword(self):
        shelf = importlib.import_module("keptrow.shelf").Shelf()
        number = shelf.begin()
        shelf.write(number=number, name="a", value=1)
        self.assertEqual(shelf.read(number=number, name="a"), 1)
        self.assertEqual(shelf.under(number=number, head="a"), [("a", 1)])
        shelf.back(number=number, many=1)
        self.assertEqual(shelf.made(number=number), 1)
        self.assertEqual(shelf.keep(number=number), 0)
        self.assertEqual(shelf.ended(number=number), "kept")
        self.assertEqual(len(shelf.deeds(number=number)), 4)
        self.assertEqual(shelf.value(name="a"), 1)
        self.assertEqual(shelf.versions(name="a"), [(1, 1)])
        self.assertEqual(shelf.drop(number=shelf.begin()), None)


if __name__ == "__main__":
    unittest.main()

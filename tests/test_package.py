"""The package's form: those of the rules in LANGUAGE.md that are plain to count."""

import ast
import pathlib
import unittest
import warnings

PACKAGE = pathlib.Path(__file__).resolve().parent.parent / "keptrow"
FILES = sorted(path for path in PACKAGE.rglob("*") if "__pycache__" not in path.parts and path.is_file())
LIBRARY = {
    "heapq": ["heappush", "heappop", "heapify", "heapreplace", "heappushpop"],
    "math": ["gcd", "lcm", "isqrt", "comb", "perm", "factorial"],
    "itertools": [
        "product", "combinations", "permutations", "chain", "accumulate", "pairwise", "islice", "zip_longest",
    ],
    "collections": ["defaultdict", "deque"],
    "__future__": ["annotations"],
}


def tree_of(path):
    return ast.parse(path.read_text(encoding="ascii"))


def nodes_of(path, kind):
    return [node for node in ast.walk(tree_of(path)) if isinstance(node, kind)]


class Package(unittest.TestCase):
    def test_the_folder_holds_python_files_only(self):
        self.assertIn(PACKAGE / "__init__.py", FILES)
        for path in FILES:
            with self.subTest(path.name):
                self.assertRegex(path.name, r"\A[a-z0-9_]+\.py\Z")
                self.assertFalse(path.name.startswith("test"))

    def test_signs(self):
        for path in FILES:
            with self.subTest(path.name):
                self.assertEqual([n for n in path.read_bytes() if n != 10 and not 32 <= n <= 126], [])

    def test_sizes(self):
        for path in FILES:
            lines = path.read_text(encoding="ascii").split("\n")
            with self.subTest(path.name):
                self.assertLessEqual(len(lines), 399)
                self.assertLessEqual(max(len(line) for line in lines), 120)
                for node in nodes_of(path, ast.FunctionDef):
                    self.assertLessEqual(node.end_lineno - node.lineno + 1, 40, node.name)

    def test_python_gives_no_warning(self):
        for path in FILES:
            with self.subTest(path.name), warnings.catch_warnings():
                warnings.simplefilter("error")
                compile(path.read_text(encoding="ascii"), path.name, "exec")

    def test_imports(self):
        for path in FILES:
            with self.subTest(path.name):
                self.assertEqual(nodes_of(path, ast.Import), [])
                for node in nodes_of(path, ast.ImportFrom):
                    self.check_import(node)

    def check_import(self, node):
        self.assertEqual(node.level, 0)
        words = [alias.name for alias in node.names]
        self.assertNotIn("*", words)
        if not node.module.startswith("keptrow."):
            self.assertLessEqual(set(words), set(LIBRARY.get(node.module, [])), node.module)

    def test_nothing_runs_at_module_level(self):
        plain = (ast.Import, ast.ImportFrom, ast.FunctionDef, ast.ClassDef, ast.Assign, ast.AnnAssign)
        for path in FILES:
            body = tree_of(path).body
            rest = body[1:] if ast.get_docstring(tree_of(path)) is not None else body
            with self.subTest(path.name):
                self.assertEqual([node.lineno for node in rest if not isinstance(node, plain)], [])


if __name__ == "__main__":
    unittest.main()

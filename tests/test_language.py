"""The language of the package: what can be seen of its rules without running it."""

import ast
import builtins
import unittest
from pathlib import Path

PACKAGE = Path(__file__).resolve().parent.parent / "leftroads"
LIBRARY = {
    "math": {"gcd", "lcm", "isqrt", "comb", "perm", "factorial"},
    "heapq": {"heappush", "heappop", "heapify", "heapreplace", "heappushpop"},
    "itertools": {
        "product", "combinations", "permutations", "chain", "accumulate", "pairwise", "islice", "zip_longest"},
    "collections": {"defaultdict", "deque"},
    "__future__": {"annotations"}}
BUILTINS = set("""
    len range enumerate zip min max sum abs sorted reversed int str bool bytes list tuple dict set isinstance ord repr
    any all divmod pow getattr hasattr setattr iter next map type super property staticmethod classmethod object float
    Exception ValueError TypeError KeyError IndexError LookupError ZeroDivisionError ArithmeticError OverflowError
    RuntimeError NotImplementedError AttributeError StopIteration NotImplemented
    """.split())
BARRED = (ast.AsyncFunctionDef, ast.AsyncFor, ast.AsyncWith, ast.Await, ast.Import, ast.Div)


class Language(unittest.TestCase):

    def files(self):
        return sorted(PACKAGE.rglob("*.py"))

    def nodes(self, *kinds):
        trees = [(path, ast.parse(path.read_text())) for path in self.files()]
        return [(path.name, node) for path, tree in trees for node in ast.walk(tree) if isinstance(node, kinds)]

    def test_the_folder_contains_files_of_the_program_alone(self):
        found = [path for path in PACKAGE.rglob("*") if path.is_file() and path.parent.name != "__pycache__"]
        self.assertEqual(sorted(found), self.files())
        self.assertIn(PACKAGE / "__init__.py", found)

    def test_files_and_lines_are_short(self):
        for path in self.files():
            lines = path.read_text().splitlines()
            self.assertLessEqual(len(lines), 399, path.name)
            for number, line in enumerate(lines, 1):
                self.assertLessEqual(len(line), 120, (path.name, number))
                self.assertNotIn("\t", line, (path.name, number))

    def test_functions_are_short(self):
        for name, node in self.nodes(ast.FunctionDef):
            self.assertLessEqual(node.end_lineno - node.lineno + 1, 40, (name, node.name))

    def test_imports(self):
        for name, node in self.nodes(ast.ImportFrom):
            self.assertEqual(node.level, 0, name)
            for each in node.names:
                if node.module in LIBRARY:
                    self.assertIn(each.name, LIBRARY[node.module], name)
                else:
                    self.assertEqual(node.module.split(".")[0], "leftroads", name)

    def test_no_two_files_import_from_each_other(self):
        needs = {}
        for path in self.files():
            module = ".".join(path.relative_to(PACKAGE.parent).with_suffix("").parts)
            tree = ast.parse(path.read_text())
            needs[module] = {node.module for node in ast.walk(tree) if isinstance(node, ast.ImportFrom)}
        while needs:
            free = [module for module, others in needs.items() if not others & set(needs)]
            self.assertNotEqual(free, [], needs)
            needs = {module: others for module, others in needs.items() if module not in free}

    def test_statements_and_numbers(self):
        self.assertEqual(self.nodes(*BARRED), [])
        for name, node in self.nodes(ast.Constant):
            self.assertNotIsInstance(node.value, (float, complex), name)

    def test_builtins(self):
        # An example that was run leaves a name of its own among them.
        known = set(vars(builtins)) - {"_", "__name__"}
        for name, node in self.nodes(ast.Name):
            if node.id in known:
                self.assertIn(node.id, BUILTINS, name)


if __name__ == "__main__":
    unittest.main()

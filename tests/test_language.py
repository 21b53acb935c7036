"""The language of the package: what can be seen of its rules without running it."""

import ast
import builtins
import unittest
from pathlib import Path

PACKAGE = Path(__file__).resolve().parent.parent / "leftroads"
LIBRARY = {
    "math": {"gcd", "lcm", "isqrt", "comb", "perm", "factorial"},
    "heapq": {"heappush", "heappop", "heapify", "heapreplace", "heappushpop"},
    "itertools": {
        "product", "combinations", "permutations", "chain", "accumulate", "pairwise", "islice", "zip_longest"},
    "collections": {"defaultdict", "deque"},
    "__future__": {"annotations"}}
BUILTINS = set("""
    len range enumerate zip min max sum abs sorted reversed int str bool bytes list tuple dict set isinstance ord repr
    any all divmod pow getattr hasattr setattr iter next map type super property staticmethod classmethod object float
    Exception ValueError TypeError KeyError IndexError LookupError ZeroDivisionError ArithmeticError OverflowError
    RuntimeError NotImplementedError AttributeError StopIteration NotImplemented
    """.split())
KEYWORDS = {
    ("sorted", "key"), ("sorted", "reverse"), ("min", "key"), ("min", "default"), ("max", "key"), ("max", "default"),
    ("sum", "start"), ("enumerate", "start"), ("zip", "strict")}
CHANGES = {"append", "clear", "extend", "insert", "pop", "remove", "reverse", "setdefault", "update", "sort"}
METHODS = set("""
    append clear copy count endswith extend find get index insert isalnum isalpha isdigit islower isspace isupper items
    join keys ljust lower lstrip partition pop remove replace reverse rfind rjust rpartition rsplit rstrip setdefault
    split splitlines startswith strip update upper values zfill bit_length title capitalize swapcase casefold center
    expandtabs removeprefix removesuffix rindex isascii isdecimal isnumeric istitle isidentifier isprintable
    """.split())
SPECIAL = {"__init__", "__call__", "__eq__", "__len__", "__repr__", "__str__"}
BARRED = (ast.AsyncFunctionDef, ast.AsyncFor, ast.AsyncWith, ast.Await, ast.Import, ast.Div)


class Language(unittest.TestCase):

    def files(self):
        return sorted(PACKAGE.rglob("*.py"))

    def nodes(self, *kinds):
        trees = [(path, ast.parse(path.read_text())) for path in self.files()]
        return [(path.name, node) for path, tree in trees for node in ast.walk(tree) if isinstance(node, kinds)]

    def test_the_folder_contains_files_of_the_program_alone(self):
        found = [path for path in PACKAGE.rglob("*") if path.is_file() and path.parent.name != "__pycache__"]
        self.assertEqual(sorted(found), self.files())
        self.assertIn(PACKAGE / "__init__.py", found)

    def test_files_and_lines_are_short(self):
        for path in self.files():
            lines = path.read_text().splitlines()
            self.assertLessEqual(len(lines), 399, path.name)
            for number, line in enumerate(lines, 1):
                self.assertLessEqual(len(line), 120, (path.name, number))
                self.assertNotIn("\t", line, (path.name, number))

    def test_functions_are_short(self):
        for name, node in self.nodes(ast.FunctionDef):
            self.assertLessEqual(node.end_lineno - node.lineno + 1, 40, (name, node.name))

    def test_imports(self):
        for name, node in self.nodes(ast.ImportFrom):
            self.assertEqual(node.level, 0, name)
            for each in node.names:
                if node.module in LIBRARY:
                    self.assertIn(each.name, LIBRARY[node.module], name)
                else:
                    self.assertEqual(node.module.split(".")[0], "leftroads", name)

    def test_no_two_files_import_from_each_other(self):
        needs = {}
        for path in self.files():
            module = ".".join(path.relative_to(PACKAGE.parent).with_suffix("").parts)
            tree = ast.parse(path.read_text())
            needs[module] = {node.module for node in ast.walk(tree) if isinstance(node, ast.ImportFrom)}
        while needs:
            free = [module for module, others in needs.items() if not others & set(needs)]
            self.assertNotEqual(free, [], needs)
            needs = {module: others for module, others in needs.items() if module not in free}

    def test_statements_and_numbers(self):
        self.assertEqual(self.nodes(*BARRED), [])
        for name, node in self.nodes(ast.Constant):
            self.assertNotIsInstance(node.value, (float, complex), name)

    def test_builtins(self):
        # An example that was run leaves a name of its own among them.
        known = set(vars(builtins)) - {"_", "__name__"}
        for name, node in self.nodes(ast.Name):
            if node.id in known:
                self.assertIn(node.id, BUILTINS, name)

    def test_no_percent_sign_and_no_pattern_of_it_in_a_string(self):
        for name, node in self.nodes(ast.Constant):
            if isinstance(node.value, str):
                self.assertNotIn(chr(37), node.value, name)
                self.assertTrue(all(" " <= sign <= "~" or sign == "\n" for sign in node.value), name)

    def test_stars_stand_before_names_alone(self):
        for name, node in self.nodes(ast.Call):
            starred = [each.value for each in node.args if isinstance(each, ast.Starred)]
            for each in starred:
                self.assertIsInstance(each, (ast.Name, ast.Attribute), name)
                self.assertNotIn(getattr(node.func, "id", ""), LIBRARY["math"], name)

    def test_keywords_of_builtins(self):
        known = set(vars(builtins))
        for name, node in self.nodes(ast.Call):
            if getattr(node.func, "id", None) in known:
                for each in node.keywords:
                    self.assertIn((node.func.id, each.arg), KEYWORDS, name)

    def test_local_names_are_no_imports_classes_or_builtins(self):
        known = set(vars(builtins)) - {"_", "object", "id", "format"}
        for path in self.files():
            tree = ast.parse(path.read_text())
            given = {each.name for node in ast.walk(tree) if isinstance(node, ast.ImportFrom) for each in node.names}
            given |= {node.name for node in ast.walk(tree) if isinstance(node, ast.ClassDef)} | known
            local = {node.id for node in ast.walk(tree) if isinstance(node, ast.Name)
                     and isinstance(node.ctx, ast.Store)}
            local |= {node.arg for node in ast.walk(tree) if isinstance(node, ast.arg)}
            self.assertEqual(local & given, set(), path.name)

    def test_every_import_names_the_file_that_defines_it_and_is_used(self):
        for path in self.files():
            tree = ast.parse(path.read_text())
            used = {node.id for node in ast.walk(tree) if isinstance(node, ast.Name)}
            for node in ast.walk(tree):
                if isinstance(node, ast.ImportFrom):
                    self.assertEqual([each.asname for each in node.names if each.asname], [], path.name)
                    for each in node.names:
                        self.assertIn(each.name, used, path.name)
                        if node.module not in LIBRARY:
                            source = ast.parse((PACKAGE / (node.module.split(".", 1)[1] + ".py")).read_text())
                            self.assertIn(each.name, self.defined(source), (path.name, each.name))

    def defined(self, tree):
        names = {node.name for node in tree.body if isinstance(node, (ast.FunctionDef, ast.ClassDef))}
        return names | {target.id for node in tree.body if isinstance(node, ast.Assign) for target in node.targets}

    def test_methods_are_known_or_those_of_the_own_classes(self):
        own = {node.name for _, node in self.nodes(ast.FunctionDef)}
        for name, node in self.nodes(ast.Call):
            if isinstance(node.func, ast.Attribute):
                self.assertIn(node.func.attr, METHODS | own, (name, node.lineno))
        for name, node in self.nodes(ast.FunctionDef):
            if node.name.startswith("__"):
                self.assertIn(node.name, SPECIAL, name)

    def test_what_a_class_with_equality_and_a_length_does_not_allow(self):
        # Generators within any and all, errors that are caught, and lists that are sorted where they stand.
        self.assertEqual(self.nodes(ast.GeneratorExp, ast.Try), [])
        for name, node in self.nodes(ast.Attribute):
            self.assertNotEqual(node.attr, "sort", name)

    def test_the_plain_stroke_is_never_read(self):
        for name, node in self.nodes(ast.Name):
            if node.id == "_":
                self.assertIsInstance(node.ctx, ast.Store, (name, node.lineno))

    def test_is_stands_beside_none_alone(self):
        for name, node in self.nodes(ast.Compare):
            for sign, other in zip(node.ops, node.comparators):
                if isinstance(sign, (ast.Is, ast.IsNot)):
                    self.assertIsInstance(other, ast.Constant, (name, node.lineno))
                    self.assertIn(other.value, (None, True, False), (name, node.lineno))

    def test_sets_stand_where_they_are_measured_or_sorted(self):
        found = [node for _, node in self.nodes(ast.Set, ast.SetComp)]
        for _, node in self.nodes(ast.Call):
            if getattr(node.func, "id", "") in ("len", "sorted"):
                found = [each for each in found if ast.dump(each) != ast.dump(node.args[0])]
        self.assertEqual(found, [])

    def test_loops_do_not_change_what_they_go_over(self):
        for name, node in self.nodes(ast.For):
            over = {each.id for each in ast.walk(node.iter) if isinstance(each, ast.Name)}
            for each in ast.walk(node):
                if isinstance(each, ast.Call) and isinstance(each.func, ast.Attribute):
                    if each.func.attr in CHANGES and isinstance(each.func.value, ast.Name):
                        self.assertNotIn(each.func.value.id, over, (name, node.lineno))
                if isinstance(each, ast.Subscript) and isinstance(each.ctx, (ast.Store, ast.Del)):
                    self.assertNotIn(getattr(each.value, "id", None), over, (name, node.lineno))


if __name__ == "__main__":
    unittest.main()

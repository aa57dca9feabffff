"""Each file of the package keeps those rules of LANGUAGE.md that can be seen in its lines and its tree."""

import ast
import builtins
import os
import unittest

ROOT = os.path.dirname(os.path.dirname(os.path.abspath(__file__)))
PACKAGE = os.path.join(ROOT, "cancelsback")

BUILTINS = set("""len range enumerate zip min max sum abs sorted reversed int str bool bytes list tuple dict set
isinstance ord repr any all divmod pow iter next map getattr hasattr Exception ValueError KeyError IndexError
LookupError TypeError ZeroDivisionError StopIteration NotImplemented super property staticmethod classmethod""".split())
METHODS = set("""append clear copy count endswith extend find get index insert isalnum isalpha isdigit islower isspace
isupper items join keys ljust lower lstrip partition pop remove replace reverse rfind rjust rpartition rsplit rstrip
setdefault split splitlines startswith strip update upper values zfill bit_length add discard isascii""".split())
# A doctest that ran before leaves its last result among them.
KNOWN = set(dir(builtins)) - {"_"}
LIBRARY = {
    "heapq": {"heappush", "heappop", "heapify"}, "math": {"gcd", "lcm", "isqrt", "comb"},
    "itertools": {"product", "combinations", "permutations", "chain", "accumulate", "pairwise", "islice"},
    "collections": {"defaultdict"},
}
BANNED_NAMES = set("""register mro elements open input law version_info with_traceback add_note eval exec id vars dir
globals locals type compile exit quit help license""".split())
BANNED_WORDS = set("typing enum Enum namedtuple dataclass Generic Protocol ABC".split())
BANNED_NODES = (ast.Global, ast.AsyncFunctionDef, ast.AsyncFor, ast.AsyncWith, ast.Await, ast.Import, ast.Div,
                ast.MatMult)
LIST_TAKERS = ("any", "all", "min", "max", "sum", "sorted", "set")


def package_files():
    return sorted(name for name in os.listdir(PACKAGE) if name != "__pycache__")


def source_of(name):
    with open(os.path.join(PACKAGE, name), encoding="utf-8") as file:
        return file.read()


def tree_of(name):
    return ast.parse(source_of(name))


def assigned_names(function):
    names = [arg.arg for arg in function.args.args + function.args.kwonlyargs]
    for node in ast.walk(function):
        if isinstance(node, ast.Name) and isinstance(node.ctx, ast.Store):
            names.append(node.id)
    return names


class LanguageTest(unittest.TestCase):

    def test_files_and_lines(self):
        self.assertTrue(package_files())
        for name in package_files():
            self.assertRegex(name, r"^[a-z_]+\.py$")
            text = source_of(name)
            self.assertLessEqual(len(text.splitlines()), 399, name)
            for line in text.splitlines():
                self.assertLessEqual(len(line), 120, (name, line))
                self.assertTrue(all(" " <= sign <= "~" for sign in line), (name, line))

    def test_functions_are_short(self):
        for name in package_files():
            for node in ast.walk(tree_of(name)):
                if isinstance(node, ast.FunctionDef):
                    self.assertLessEqual(node.end_lineno - node.lineno + 1, 40, (name, node.name))
                    self.assertIsNotNone(ast.get_docstring(node) or node.name.startswith("__") or None,
                                         (name, node.name))

    def test_module_level(self):
        for name in package_files():
            for node in tree_of(name).body:
                plain = isinstance(node, (ast.ImportFrom, ast.FunctionDef, ast.ClassDef))
                docstring = isinstance(node, ast.Expr) and isinstance(node.value, ast.Constant)
                named = isinstance(node, ast.Assign) and isinstance(node.targets[0], ast.Name)
                self.assertTrue(plain or docstring or named, (name, node.lineno))

    def test_imports(self):
        files = package_files()
        ahead = {}
        for name in files:
            ahead[name[:-3]] = []
            for node in ast.walk(tree_of(name)):
                if isinstance(node, ast.ImportFrom):
                    self.assertEqual(node.level, 0)
                    if node.module in LIBRARY:
                        self.assertLessEqual({part.name for part in node.names}, LIBRARY[node.module])
                    else:
                        package, module = node.module.split(".")
                        self.assertEqual(package, "cancelsback")
                        self.assertIn(module + ".py", files)
                        ahead[name[:-3]].append(module)
                        self.check_defined_there(module, [part.name for part in node.names])
        done = []
        while len(done) < len(ahead):
            ready = [name for name in ahead if name not in done and all(part in done for part in ahead[name])]
            self.assertTrue(ready, "files import from each other")
            done = done + ready

    def check_defined_there(self, module, names):
        bound = [node.name for node in tree_of(module + ".py").body
                 if isinstance(node, (ast.FunctionDef, ast.ClassDef))]
        for name in names:
            self.assertIn(name, bound)

    def test_imported_names_are_used(self):
        for name in package_files():
            tree = tree_of(name)
            used = {node.id for node in ast.walk(tree) if isinstance(node, ast.Name)}
            for node in ast.walk(tree):
                if isinstance(node, ast.ImportFrom):
                    for part in node.names:
                        self.assertIn(part.name, used, name)

    def test_names(self):
        for name in package_files():
            tree = tree_of(name)
            barred = {part.name for node in ast.walk(tree) if isinstance(node, ast.ImportFrom) for part in node.names}
            barred |= {node.name for node in tree.body if isinstance(node, ast.ClassDef)}
            for node in ast.walk(tree):
                if isinstance(node, ast.FunctionDef):
                    for word in assigned_names(node):
                        self.assertNotIn(word, barred, (name, node.name))
                        self.assertNotIn(word, KNOWN, (name, node.name))
                if isinstance(node, (ast.FunctionDef, ast.ClassDef)) and not node.name.startswith("__"):
                    self.assertNotIn(node.name, KNOWN | BANNED_NAMES, name)
                if isinstance(node, ast.Name) and node.id in KNOWN:
                    self.assertIn(node.id, BUILTINS, name)
                if isinstance(node, ast.Name):
                    self.assertNotIn(node.id, BANNED_NAMES, name)
            for word in BANNED_WORDS:
                self.assertNotRegex(source_of(name), r"\b" + word + r"\b", name)

    def test_nodes(self):
        for name in package_files():
            for node in ast.walk(tree_of(name)):
                self.assertNotIsInstance(node, BANNED_NODES, (name, getattr(node, "lineno", 0)))
                if isinstance(node, ast.Compare):
                    for sign, other in zip(node.ops, node.comparators):
                        if isinstance(sign, (ast.Is, ast.IsNot)):
                            self.assertIsInstance(other, ast.Constant, (name, node.lineno))
                if isinstance(node, ast.Constant) and isinstance(node.value, str):
                    self.assertNotIn("%", node.value, (name, node.lineno))
                if isinstance(node, ast.Constant):
                    self.assertNotIsInstance(node.value, (float, complex), (name, node.lineno))
                if isinstance(node, ast.FunctionDef):
                    allowed = all(isinstance(sign, ast.Name) for sign in node.decorator_list)
                    self.assertTrue(allowed, (name, node.name))

    def test_lists_are_taken_where_objects_compare(self):
        for name in package_files():
            for node in ast.walk(tree_of(name)):
                if isinstance(node, ast.Call) and isinstance(node.func, ast.Name) and node.func.id in LIST_TAKERS:
                    for part in node.args:
                        self.assertNotIsInstance(part, ast.GeneratorExp, (name, node.lineno))
                self.assertFalse(isinstance(node, ast.Call) and isinstance(node.func, ast.Attribute)
                                 and node.func.attr == "sort", name)

    def test_methods(self):
        own = set()
        for name in package_files():
            for node in ast.walk(tree_of(name)):
                if isinstance(node, ast.ClassDef):
                    own |= {part.name for part in node.body if isinstance(part, ast.FunctionDef)}
        for name in package_files():
            for node in ast.walk(tree_of(name)):
                if isinstance(node, ast.Call) and isinstance(node.func, ast.Attribute):
                    self.assertIn(node.func.attr, own | METHODS, (name, node.lineno))

    def test_sets_are_kept_plain(self):
        for name in package_files():
            for function in ast.walk(tree_of(name)):
                if isinstance(function, ast.FunctionDef):
                    self.check_sets(name, function)

    def check_sets(self, name, function):
        kept = []
        for node in ast.walk(function):
            if isinstance(node, ast.Assign) and isinstance(node.value, ast.Call):
                if isinstance(node.value.func, ast.Name) and node.value.func.id == "set":
                    kept.append(node.targets[0].id)
        self.assertEqual(len(kept), len(set(kept)), (name, function.name))
        stores = [word for word in assigned_names(function) if word in kept]
        self.assertEqual(len(stores), len(kept), (name, function.name))
        for node in ast.walk(function):
            if isinstance(node, (ast.For, ast.comprehension)) and isinstance(node.iter, ast.Name):
                self.assertNotIn(node.iter.id, kept, (name, function.name))
            if isinstance(node, ast.Return) and isinstance(node.value, ast.Name):
                self.assertNotIn(node.value.id, kept, (name, function.name))


if __name__ == "__main__":
    unittest.main()

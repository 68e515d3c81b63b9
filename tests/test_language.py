"""Rules of the language of the program that can be seen from outside: sizes, characters, imports, names."""

import ast
import pathlib
import unittest

import bushcoins

FOLDER = pathlib.Path(bushcoins.__file__).parent
BUILTINS = set(
    "len range enumerate zip min max sum abs sorted reversed int str bool list tuple dict set isinstance ord repr any"
    " all divmod ValueError LookupError KeyError IndexError TypeError".split()
)
BARRED = set("register mro elements open input law type id hash vars dir eval exec compile globals locals".split())
METHODS = set(
    "append clear copy count endswith extend find get index insert isalnum isalpha isdigit islower isspace isupper"
    " items join keys ljust lower lstrip partition pop remove replace reverse rfind rjust rpartition rsplit rstrip"
    " setdefault split splitlines startswith strip update upper values zfill add discard".split()
)


def files():
    return sorted(FOLDER.glob("*.py"))


def trees():
    return [(path.name, ast.parse(path.read_text())) for path in files()]


class TestLanguage(unittest.TestCase):
    def test_the_folder_has_files_of_the_program_only(self):
        for path in FOLDER.iterdir():
            if path.name != "__pycache__":
                self.assertEqual(path.suffix, ".py")
                self.assertEqual(path.name, path.name.lower())
        self.assertTrue((FOLDER / "__init__.py").exists())

    def test_characters_and_sizes(self):
        for path in files():
            lines = path.read_text().split("\n")
            self.assertLessEqual(len(lines), 400, path.name)
            for line in lines:
                self.assertLessEqual(len(line), 120, path.name)
                self.assertTrue(all(" " <= letter <= "~" for letter in line), path.name)

    def test_functions_are_small(self):
        for name, tree in trees():
            for node in ast.walk(tree):
                if isinstance(node, ast.FunctionDef):
                    self.assertLessEqual(node.end_lineno - node.lineno + 1, 40, (name, node.name))

    def test_imports_are_of_the_package_and_name_the_defining_file(self):
        defined = {name: {node.name for node in tree.body if hasattr(node, "name")} for name, tree in trees()}
        for name, tree in trees():
            for node in ast.walk(tree):
                self.assertNotIsInstance(node, ast.Import, name)
                if isinstance(node, ast.ImportFrom) and node.module == "math":
                    for alias in node.names:
                        self.assertIn(alias.name, ("gcd", "lcm", "isqrt", "comb", "perm", "factorial"), name)
                        self.assertIsNone(alias.asname)
                elif isinstance(node, ast.ImportFrom):
                    self.assertEqual((node.level, node.module.split(".")[0]), (0, "bushcoins"), name)
                    source = node.module.split(".")[1] + ".py"
                    for alias in node.names:
                        self.assertIsNone(alias.asname)
                        self.assertTrue(alias.name in defined[source] or alias.name.isupper(), (name, alias.name))

    def test_imports_go_in_no_circle(self):
        needs = {}
        for name, tree in trees():
            needs[name] = {
                node.module.split(".")[1] + ".py"
                for node in tree.body if isinstance(node, ast.ImportFrom) and node.module != "math"
            }
        while needs:
            free = [name for name in needs if not needs[name] & set(needs)]
            self.assertTrue(free, sorted(needs))
            for name in free:
                del needs[name]

    def test_names(self):
        for name, tree in trees():
            for node in ast.walk(tree):
                for word in self.names_of(node):
                    self.assertNotIn(word, BARRED, name)
                    if word.startswith("__"):
                        self.assertIn(word, ("__init__", "__eq__"), name)

    def names_of(self, node):
        if isinstance(node, ast.Name):
            return [node.id]
        if isinstance(node, ast.arg):
            return [node.arg]
        if isinstance(node, ast.Attribute):
            return [node.attr]
        if isinstance(node, (ast.FunctionDef, ast.ClassDef)):
            return [node.name]
        return []

    def test_bound_names_are_no_builtins(self):
        import builtins
        for name, tree in trees():
            for node in ast.walk(tree):
                if isinstance(node, ast.Name) and not isinstance(node.ctx, ast.Load):
                    self.assertFalse(hasattr(builtins, node.id), (name, node.id))
                if isinstance(node, ast.arg):
                    self.assertFalse(hasattr(builtins, node.arg), (name, node.arg))
                if isinstance(node, ast.Name) and isinstance(node.ctx, ast.Load) and hasattr(builtins, node.id):
                    self.assertIn(node.id, BUILTINS, name)

    def test_methods_are_own_ones_or_allowed_ones(self):
        own = set()
        for _, tree in trees():
            own |= {node.name for node in ast.walk(tree) if isinstance(node, ast.FunctionDef)}
        for name, tree in trees():
            for node in ast.walk(tree):
                if isinstance(node, ast.Call) and isinstance(node.func, ast.Attribute):
                    self.assertIn(node.func.attr, own | METHODS, name)

    def test_plain_statements_and_values(self):
        barred = (
            ast.AsyncFunctionDef, ast.Await, ast.Global, ast.With, ast.Set, ast.SetComp,
            ast.GeneratorExp, ast.Yield, ast.YieldFrom, ast.Div, ast.NamedExpr, ast.AnnAssign,
        )
        for name, tree in trees():
            for node in ast.walk(tree):
                self.assertNotIsInstance(node, barred, name)
                if isinstance(node, ast.Constant):
                    self.assertNotIsInstance(node.value, (float, complex, bytes), name)

    def test_own_errors_alone_are_caught(self):
        own = {node.name for name, tree in trees() if name == "errors.py" for node in tree.body[1:]}
        for name, tree in trees():
            for node in ast.walk(tree):
                if isinstance(node, ast.Try):
                    self.assertEqual((name, node.finalbody, node.orelse), ("console.py", [], []))
                    for handler in node.handlers:
                        self.assertIn(handler.type.id, own)

    def test_lambdas_take_keys_only(self):
        for name, tree in trees():
            calls = [node for node in ast.walk(tree) if isinstance(node, ast.Call)]
            keys = [told.value for node in calls for told in node.keywords if told.arg == "key"]
            for node in ast.walk(tree):
                if isinstance(node, ast.Lambda):
                    self.assertIn(node, keys, name)

    def test_is_stands_beside_none_and_truths_only(self):
        for name, tree in trees():
            for node in ast.walk(tree):
                if isinstance(node, ast.Compare):
                    for operator, value in zip(node.ops, node.comparators):
                        if isinstance(operator, (ast.Is, ast.IsNot)):
                            self.assertIsInstance(value, ast.Constant, name)


if __name__ == "__main__":
    unittest.main()

"""The rules of the language that a file shows by itself: sizes, signs, statements, imports."""
import ast
import builtins
import pathlib
import unittest

PACKAGE = pathlib.Path(__file__).resolve().parent.parent / "strangerbench"
LIBRARY = ("heapq", "math", "itertools", "collections", "__future__")
BUILTINS = (
    "len range enumerate zip min max sum abs sorted reversed int str bool bytes list tuple dict set frozenset isinstance "
    "ord repr any all divmod pow type ValueError LookupError"
).split()
METHODS = (
    "append clear copy count endswith extend find get index insert isalnum isalpha isdigit islower isspace isupper items "
    "join keys ljust lower lstrip partition pop remove replace reverse rfind rjust rpartition rsplit rstrip setdefault "
    "split splitlines startswith strip update upper values zfill bit_length add discard"
).split()
NOWHERE = "register mro elements open input law version_info with_traceback add_note".split()
BARRED = (ast.AsyncFunctionDef, ast.AsyncFor, ast.AsyncWith, ast.Await, ast.Div, ast.Import)


class TestLanguage(unittest.TestCase):
    def setUp(self):
        self.texts = {path: path.read_text(encoding="utf-8") for path in sorted(PACKAGE.glob("*.py"))}

    def test_the_package_has_just_its_files(self):
        self.assertIn(PACKAGE / "__init__.py", self.texts)
        others = [path.name for path in PACKAGE.iterdir() if path.suffix != ".py" and path.name != "__pycache__"]
        self.assertEqual(others, [])

    def test_signs_and_sizes(self):
        for path, text in self.texts.items():
            self.assertEqual([sign for sign in text if not (" " <= sign <= "~" or sign == "\n")], [], path)
            lines = text.split("\n")
            self.assertLessEqual(len(lines), 400, path)
            self.assertLessEqual(max([len(line) for line in lines]), 120, path)

    def test_functions_are_small(self):
        for path, text in self.texts.items():
            for node in ast.walk(ast.parse(text)):
                if isinstance(node, ast.FunctionDef):
                    self.assertLessEqual(node.end_lineno - node.lineno + 1, 40, (path, node.name))

    def test_statements(self):
        for path, text in self.texts.items():
            for node in ast.walk(ast.parse(text)):
                self.assertNotIsInstance(node, BARRED if path.name != "__main__.py" else BARRED[:-1], path)
                if isinstance(node, ast.Constant):
                    self.assertNotIsInstance(node.value, (float, complex), path)

    def test_imports(self):
        for path, text in self.texts.items():
            for node in ast.walk(ast.parse(text)):
                if isinstance(node, ast.ImportFrom):
                    self.assertEqual(node.level, 0, path)
                    self.assertNotIn("*", [name.name for name in node.names], path)
                    own = node.module.startswith("strangerbench.")
                    self.assertTrue(own or node.module in LIBRARY, (path, node.module))

    def test_no_files_import_from_each_other(self):
        needs = {}
        for path, text in self.texts.items():
            froms = [node.module for node in ast.walk(ast.parse(text)) if isinstance(node, ast.ImportFrom)]
            needs[path.stem] = [name.split(".")[1] for name in froms if name.startswith("strangerbench.")]
        settled = set()
        while len(settled) < len(needs):
            more = [name for name in needs if name not in settled and settled.issuperset(needs[name])]
            self.assertNotEqual(more, [])
            settled.update(more)

    def bound_names(self, tree):
        """The names that are imported, those of functions and classes, and all others that are assigned; no methods."""
        imported, defined, assigned = set(), set(), set()
        methods = [one for node in ast.walk(tree) if isinstance(node, ast.ClassDef) for one in node.body]
        for node in ast.walk(tree):
            if isinstance(node, ast.ImportFrom):
                imported.update([name.name for name in node.names])
            elif isinstance(node, (ast.FunctionDef, ast.ClassDef)) and node not in methods:
                defined.add(node.name)
            elif isinstance(node, ast.arg):
                assigned.add(node.arg)
            elif isinstance(node, ast.Name) and isinstance(node.ctx, ast.Store):
                assigned.add(node.id)
        return imported, defined, assigned

    def test_names(self):
        for path, text in self.texts.items():
            imported, defined, assigned = self.bound_names(ast.parse(text))
            self.assertEqual((imported | defined) & assigned, set(), path)
            self.assertEqual(imported & defined, set(), path)
            for name in [one for one in imported | defined | assigned if not one.startswith("__")]:
                self.assertFalse(hasattr(builtins, name), (path, name))
                self.assertNotIn(name, NOWHERE, path)

    def own_methods(self):
        """The methods of all classes of the package."""
        classes = [node for text in self.texts.values() for node in ast.walk(ast.parse(text))
                   if isinstance(node, ast.ClassDef)]
        return {node.name for one in classes for node in one.body if isinstance(node, ast.FunctionDef)}

    def test_methods_of_classes(self):
        for path, text in self.texts.items():
            for node in ast.walk(ast.parse(text)):
                if isinstance(node, ast.FunctionDef) and node.name.startswith("__"):
                    self.assertIn(node.name, ("__init__", "__len__", "__str__", "__eq__", "__ne__"), path)
                if isinstance(node, ast.ClassDef):
                    attributes = {one.attr for one in ast.walk(node) if isinstance(one, ast.Attribute)
                                  and isinstance(one.ctx, ast.Store)}
                    self.assertEqual(attributes & self.own_methods(), set(), path)

    def test_builtins_and_methods(self):
        own = self.own_methods()
        for path, text in self.texts.items():
            tree = ast.parse(text)
            for node in ast.walk(tree):
                if isinstance(node, ast.Name) and hasattr(builtins, node.id):
                    self.assertIn(node.id, BUILTINS, path)
                if isinstance(node, ast.Call) and isinstance(node.func, ast.Attribute):
                    self.assertTrue(node.func.attr in METHODS or node.func.attr in own, (path, node.func.attr))

    def test_signs_in_strings(self):
        for path, text in self.texts.items():
            for node in ast.walk(ast.parse(text)):
                if isinstance(node, ast.Constant) and type(node.value) is str:
                    self.assertNotIn("%", node.value, path)


if __name__ == "__main__":
    unittest.main()

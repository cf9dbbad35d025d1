"""The simpler ones of the rules for the files of the package: sizes, characters, imports, words."""

import ast
import builtins
import pathlib
import unittest

FOLDER = pathlib.Path(__file__).resolve().parent.parent / "allbutts"
FILES = sorted(path for path in FOLDER.rglob("*") if "__pycache__" not in path.parts)
LIBRARY = {"heapq", "math", "itertools", "collections"}
ALLOWED = set(
    "len range enumerate zip min max sum abs sorted reversed int str bool bytes list tuple dict set isinstance ord repr"
    " any all divmod pow map iter next getattr hasattr setattr property staticmethod classmethod super"
    " True False None Exception ValueError TypeError KeyError IndexError LookupError ZeroDivisionError ArithmeticError"
    " OverflowError RuntimeError NotImplementedError AttributeError StopIteration NotImplemented".split()
)
BARRED_NODES = (
    ast.GeneratorExp, ast.Div, ast.Global, ast.AsyncFunctionDef, ast.Yield, ast.YieldFrom, ast.AnnAssign,
)


class LanguageTest(unittest.TestCase):
    def test_files(self):
        self.assertIn(FOLDER / "__init__.py", FILES)
        for path in FILES:
            self.assertTrue(path.is_file() and path.suffix == ".py" and path.name == path.name.lower(), path)

    def test_sizes(self):
        for name, text, tree in read_files():
            lines = text.split("\n")
            self.assertLessEqual(len(lines), 400, name)
            self.assertLessEqual(max(len(line) for line in lines), 120, name)
            for node in ast.walk(tree):
                if isinstance(node, ast.FunctionDef):
                    self.assertLessEqual(node.end_lineno - node.lineno + 1, 40, (name, node.name))

    def test_characters(self):
        for name, text, tree in read_files():
            self.assertTrue(all(sign == "\n" or " " <= sign <= "~" for sign in text), name)
            for node in ast.walk(tree):
                if isinstance(node, ast.Constant) and isinstance(node.value, str):
                    self.assertNotIn("%", node.value, name)

    def test_imports_come_from_the_file_that_defines(self):
        for name, _, tree in read_files():
            for node in ast.walk(tree):
                self.assertNotIsInstance(node, ast.Import, name)
                if isinstance(node, ast.ImportFrom) and node.module not in LIBRARY:
                    self.assertEqual(node.level, 0, name)
                    package, module = node.module.split(".")
                    self.assertEqual(package, "allbutts", name)
                    names = {alias.name for alias in node.names}
                    self.assertLessEqual(names, defined_in(FOLDER / (module + ".py")), name)

    def test_no_circle_of_imports(self):
        waits = {path.stem: imported_by(path) for path in FILES}
        while waits:
            free = [name for name, others in waits.items() if not others & set(waits)]
            self.assertTrue(free, waits)
            waits = {name: others for name, others in waits.items() if name not in free}

    def test_barred_nodes(self):
        for name, _, tree in read_files():
            for node in ast.walk(tree):
                self.assertNotIsInstance(node, BARRED_NODES, name)
                self.assertFalse(isinstance(node, ast.Constant) and isinstance(node.value, float), name)

    def test_builtins(self):
        barred = set(dir(builtins)) - ALLOWED
        for name, _, tree in read_files():
            used = {node.id for node in ast.walk(tree) if isinstance(node, ast.Name)}
            self.assertEqual(used & barred, set(), name)

    def test_classes(self):
        for name, _, tree in read_files():
            for node in ast.walk(tree):
                if isinstance(node, ast.ClassDef):
                    defined = [item.name for item in node.body if isinstance(item, ast.FunctionDef)]
                    self.assertEqual(len(defined), len(set(defined)), (name, node.name))
                    # What is indexed would be iterated over otherwise.
                    self.assertTrue("__getitem__" not in defined or "__iter__" in defined, (name, node.name))
                    stored = {item.attr for item in ast.walk(node) if is_stored_attribute(item)}
                    self.assertEqual(stored & set(defined), set(), (name, node.name))

    def test_no_set_is_added_to(self):
        # As a Board has a method add, no set may use its own.
        for name, _, tree in read_files():
            for node in ast.walk(tree):
                if isinstance(node, ast.Call) and isinstance(node.func, ast.Attribute) and node.func.attr == "add":
                    self.assertEqual((name, node.func.value.id), ("desk.py", "board"))

    def test_local_names(self):
        for name, _, tree in read_files():
            barred = set(dir(builtins)) | {node.name for node in tree.body if isinstance(node, ast.ClassDef)}
            for node in tree.body:
                if isinstance(node, ast.ImportFrom):
                    barred |= {alias.name for alias in node.names}
            bound = {node.arg for node in ast.walk(tree) if isinstance(node, ast.arg)}
            stored = [node for node in ast.walk(tree) if isinstance(node, ast.Name) and isinstance(node.ctx, ast.Store)]
            self.assertEqual((bound | {node.id for node in stored}) & barred, set(), name)


def read_files():
    """For each file of the package its name, its text and its tree."""
    texts = [(path.name, path.read_text(encoding="utf-8")) for path in FILES]
    return [(name, text, ast.parse(text)) for name, text in texts]


def defined_in(path):
    kinds = (ast.FunctionDef, ast.ClassDef)
    body = ast.parse(path.read_text(encoding="utf-8")).body
    assigned = {target.id for node in body if isinstance(node, ast.Assign) for target in node.targets}
    return assigned | {node.name for node in body if isinstance(node, kinds)}


def is_stored_attribute(node):
    return isinstance(node, ast.Attribute) and isinstance(node.ctx, ast.Store)


def imported_by(path):
    tree = ast.parse(path.read_text(encoding="utf-8"))
    modules = [node.module for node in ast.walk(tree) if isinstance(node, ast.ImportFrom)]
    return {module.split(".")[1] for module in modules if module.startswith("allbutts.")}


if __name__ == "__main__":
    unittest.main()

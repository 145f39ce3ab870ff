"""Rules of the code that can be checked from the files alone, and where the interface's names are defined."""

import ast
import pathlib
import unittest

PACKAGE = pathlib.Path(__file__).resolve().parent.parent / "layerwharf"
FILES = sorted(PACKAGE.glob("*.py"))
# For each file of the interface that is written: its functions and classes, and its other names.
INTERFACE = {
    "errors": (["Refused", "Malformed", "Misused"], []),
    "addresses": (["address_of", "is_address"], ["KINDS"]),
    "images": (["image_text", "bundle_text", "read_image", "read_bundle", "references"], []),
    "store": (["Store"], ["BELOW"]),
    "claims": (["Claims"], []),
    "uploads": (["Uploads"], []),
    "collector": (["Collector"], []),
}
# For each class of the interface that has methods: each method, and the names of what it takes beside its object.
METHODS = {
    "Store": {
        "keep": ["kind", "text"], "blob": ["address"], "remove_blob": ["address"], "addresses": [],
        "below": ["address"], "is_whole": ["address"], "closure": ["address"],
    },
    "Claims": {
        "begin": [], "is_open": ["claim"], "pin": ["claim", "address"], "end": ["claim"], "numbers": [], "pinned": [],
    },
    "Uploads": {"begin": [], "add_part": ["upload", "at", "part"], "finish": ["upload"], "forget": []},
    "Collector": {"step": ["roots"], "shade": ["address"], "stop": []},
}
LIBRARY = {"heapq", "math", "itertools", "collections"}


def tree_of(path):
    return ast.parse(path.read_text(encoding="ascii"))


class FilesTest(unittest.TestCase):
    def test_the_package_holds_only_files_of_python(self):
        for path in PACKAGE.iterdir():
            if path.name != "__pycache__":
                self.assertRegex(path.name, r"\A[a-z_][a-z0-9_]*\.py\Z")
        self.assertIn(PACKAGE / "__init__.py", FILES)

    def test_the_characters_and_sizes_of_the_files(self):
        for path in FILES:
            text = path.read_text(encoding="ascii")
            self.assertEqual([sign for sign in text if sign != "\n" and not " " <= sign <= "~"], [])
            self.assertLessEqual(len(text.split("\n")), 399, path.name)
            self.assertLessEqual(max(len(line) for line in text.split("\n")), 120, path.name)

    def test_the_functions_have_at_most_40_lines(self):
        for path in FILES:
            for node in ast.walk(tree_of(path)):
                if isinstance(node, ast.FunctionDef):
                    self.assertLessEqual(node.end_lineno - node.lineno + 1, 40, f"{path.name} {node.name}")

    def test_the_imports_are_from_files_of_the_package(self):
        for path in FILES:
            for node in ast.walk(tree_of(path)):
                self.assertNotIsInstance(node, ast.Import, path.name)
                if isinstance(node, ast.ImportFrom) and node.module not in LIBRARY:
                    self.assertRegex(node.module, r"\Alayerwharf\.[a-z_]+\Z", path.name)
                    self.assertEqual(node.level, 0)
                    self.assertNotIn("*", [name.name for name in node.names])


class InterfaceTest(unittest.TestCase):
    def test_each_name_is_defined_in_its_own_file(self):
        for module, (definitions, values) in INTERFACE.items():
            body = tree_of(PACKAGE / f"{module}.py").body
            defined = [node.name for node in body if isinstance(node, (ast.FunctionDef, ast.ClassDef))]
            assigned = [node.targets[0].id for node in body if isinstance(node, ast.Assign)]
            for name in definitions:
                self.assertEqual(defined.count(name), 1, name)
            for name in values:
                self.assertEqual(assigned.count(name), 1, name)

    def test_each_method_is_defined_in_its_class_with_its_arguments(self):
        found = {}
        for path in FILES:
            for node in tree_of(path).body:
                if isinstance(node, ast.ClassDef):
                    methods = [part for part in node.body if isinstance(part, ast.FunctionDef)]
                    found[node.name] = {part.name: [taken.arg for taken in part.args.args[1:]] for part in methods}
        for name, methods in METHODS.items():
            for method, arguments in methods.items():
                self.assertEqual(found[name].get(method), arguments, f"{name}.{method}")


if __name__ == "__main__":
    unittest.main()
